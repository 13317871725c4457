import Derived.Test.YtpejpbbdgblbeaaGreatDoorSSetOrDo
import Derived.Test.YtpejpbbdgblbeaaGreatDoorMC22
namespace Go.Proofs.YtpejpbbdgblbeaaGreatDoor
open Go.RowKit Go.Shelf
set_option maxHeartbeats 16000000
set_option maxRecDepth 100000
theorem ZH.lined {r g o cap P B:Nat} {w w3 w5:World} {x:St} {us:List Tk} {a:Int} {b:ByteArray} {ve vb vl:Value} {c:Int} (line:Nat) (hx:yv (fun k=>B≤k) w3 x (.agg #[.int .i64 a,.string b,ve,vb,vl,.int .i64 c])) (hK5:zd r w w5) (hsz:w5.heap.size=w3.heap.size) (hsame:∀k,k≠P→w5.heap[k]?=w3.heap[k]?)
  (hPB:P<B) (hNP:w.heap.size<P) (hr:r<w.heap.size) (hg:g<w.heap.size) (hrd:zg r g o cap us w3) :
  ZH r g w (.ok (x.at line,us)) (.returned (.agg #[.int .i64 a,.string b,ve,vb,vl,.int .i64 line])) (XB w5 w.heap.size (.int .i64 a) (.string b) ve vb vl (.int .i64 line)):=by
 cases hx with
 | mk k s es body els l0 _ _ _ gb cb gl cl ub ul he hb hbk hl hlk =>
  have y:w3.heap.size≤w5.heap.size:=by omega
  have h:∀j,B≤j→j<w3.heap.size→w5.heap[j]?=w3.heap[j]?:=fun j hj _=>hsame j (by omega)
  exact ZH.of_set6 (B:=B) k s line hK5 (Nat.le_refl _) hr hg (he.kept y h) (z8.kept (l:=body) (v:=vb) ⟨gb,cb,ub,hb,hbk⟩ y h) (z8.kept (l:=els) (v:=vl) ⟨gl,cl,ul,hl,hlk⟩ y h) (by omega) (hrd.keep (hsame r (by omega)) (hsame g (by omega)))
structure SB (r:Nat) (w:World) (P:Nat) (W:World):Prop where
 k:zd r w W
 n:W.heap[w.heap.size]?=some xw
 p:W.heap[P]?=some xw
theorem SB.next {r P:Nat} {w W W':World} (h:SB r w P W) (hk:zd r W W') (hr:r<w.heap.size) (hP:w.heap.size<P):SB r w P W' :=
 ⟨h.k.trans hk,(hk.block _ (Array.getElem?_eq_some_iff.1 h.n).1 (by omega)).trans h.n,(hk.block _ (Array.getElem?_eq_some_iff.1 h.p).1 (by omega)).trans h.p⟩
theorem SB.lt {r P:Nat} {w W:World} (h:SB r w P W):P<W.heap.size:=(Array.getElem?_eq_some_iff.1 h.p).1
theorem zgI {f line:Nat} {t1 t2:Tk} {us:List Tk} {R:PR St} (h:(zh (Z3 (t1::t2::us)) fun s us=>zh (zR [61] us) fun _ us=>zh (zf f 1 us) fun e us=>zh (zR [59] us) fun _ us=>some (.ok (.mk 1 s [e] [] [] line,us)))=some R) :
  ∃res,R=atL line (QP t1 t2 res)∧(t1.k=1→zm t2 [61]=true→zf f 1 us=some res):=by
 unfold Z3 zR at h
 simp only [zE,List.tail_cons] at h
 unfold QP
 by_cases h1:t1.k=1
 ·simp only [if_pos h1,zh,zE,List.tail_cons] at h
  by_cases h2:zm t2 [61]=true
  ·simp only [if_pos h2] at h
   cases h3:zf f 1 us with
   | none=>rw [h3] at h;cases h
   | some r3 =>
    rw [h3] at h;refine ⟨r3,?_,fun _ _=>rfl⟩
    rw [if_pos h1,if_pos h2];rcases r3 with a | ⟨e,o⟩
    ·simp only [Option.some.injEq] at h
     rw [←h];rfl
    ·simp only at h ⊢
     by_cases h4:zm (zv o) [59]=true
     ·simp only [if_pos h4,Option.some.injEq] at h ⊢
      rw [←h];rfl
     ·simp only [if_neg h4,Option.some.injEq] at h ⊢
      rw [←h];rfl
  ·simp only [if_neg h2,Option.some.injEq] at h
   refine ⟨.error 0,?_,fun _ h9=>absurd h9 h2⟩
   rw [if_pos h1,if_neg h2,←h];rfl
 ·simp only [if_neg h1,zh,Option.some.injEq] at h
  refine ⟨.error 0,?_,fun h9=>absurd h9 h1⟩
  rw [if_neg h1,←h];rfl
theorem zb6 {f line:Nat} {t1:Tk} {us:List Tk} {R:PR St} (h:(if zm t1 [59]=true then some (.ok (.mk 6 [] [] [] [] line,us)) else zh (zf f 1 (t1::us)) fun e us=>zh (zR [59] us) fun _ us=>some (.ok (.mk 6 [] [e] [] [] line,us)))=some R) :
  ∃res,R=atL line (xf t1 us res)∧(zm t1 [59]=false→zf f 1 (t1::us)=some res):=by
 unfold zR at h
 unfold xf
 by_cases h1:zm t1 [59]=true
 ·simp only [if_pos h1,Option.some.injEq] at h
  refine ⟨.error 0,?_,fun h9=>by rw [h1] at h9;cases h9⟩
  rw [if_pos h1,←h];rfl
 ·simp only [if_neg h1] at h
  cases h3:zf f 1 (t1::us) with
  | none=>rw [h3] at h;cases h
  | some r3 =>
   rw [h3] at h;refine ⟨r3,?_,fun _=>rfl⟩
   rw [if_neg h1];rcases r3 with a | ⟨e,o⟩
   ·simp only [zh,Option.some.injEq] at h
    rw [←h];rfl
   ·simp only [zh] at h ⊢
    by_cases h4:zm (zv o) [59]=true
    ·simp only [if_pos h4,Option.some.injEq] at h ⊢
     rw [←h];rfl
    ·simp only [if_neg h4,Option.some.injEq] at h ⊢
     rw [←h];rfl
theorem zfc (r g o cap:Nat) (t:Tk) (w:World) (h:zg r g o cap [t] w) (hk:t.k≠1):Calls Tryz.prog 166 #[.pointer (some ⟨r,0,none⟩)] w (ZH r g w (.error t.at0)):=by
 obtain ⟨w0,y⟩:∃w0,w0=w.alloc xw:=⟨_,rfl⟩;have G:zg r g o cap [t] w0:=by rw [y];exact h.alloc _
 have H:zd r w w0:=by rw [y];exact (zd.refl r w).alloc _
 have z:=xu r g o cap t [] w0 G (fun h=>absurd h hk)
 have D:Hid (w0=w.alloc xw):=y;clear h G y;simp only [if_neg hk] at z
 go_enter Tryz.func166,Tryz.ntmps166
 go_wp2_with fail
 rw [←D.out];refine z.mono ?_;clear z;rintro e I ⟨A,rfl⟩;exact ⟨rfl,H.trans A,rfl⟩
theorem za2 (r g o cap F:Nat) (ts:List Tk) (w:World) (R:PR St) (h:zg r g o cap ts w) (hE:zi ts) (hp:Ze (F+1) ts=some R)
  (hex:∀w1 o1 cap1 ts1 r1,zf F 1 ts1=some r1→zi ts1→zg r g o1 cap1 ts1 w1→zd r w w1→Calls Tryz.prog 44 #[.pointer (some ⟨r,0,none⟩)] w1 (zJ r g w1 r1))
  (hbl:∀w1 o1 cap1 ts1 r1,zH F ts1=some r1→zi ts1→zg r g o1 cap1 ts1 w1→zd r w w1→Calls Tryz.prog 100 #[.pointer (some ⟨r,0,none⟩)] w1 (X5 r g w1 r1)) :
  Calls Tryz.prog 136 #[.pointer (some ⟨r,0,none⟩)] w (ZH r g w R):=by
 obtain ⟨t0,Y,rfl⟩:=hE.cons;have hr:=h.lt.1;have aI:=h.lt.2;have hf:=Xv;obtain ⟨w0,au⟩:∃w0,w0=w.alloc xw:=⟨_,rfl⟩;have h0:zg r g o cap (t0::Y) w0:=by rw [au];exact h.alloc _
 have ch:=yh r g o cap t0 Y w0 h0;obtain ⟨P,hP⟩:∃P,P=w.heap.size+2:=⟨_,rfl⟩;obtain ⟨w1,ay⟩:∃w1,w1=(w0.alloc (ZK t0)).alloc xw:=⟨_,rfl⟩;have h1:zg r g o cap (t0::Y) w1:=by rw [ay];exact (h0.alloc _).alloc _
 have ba:SB r w P w1:=by
  have bi:w0.heap.size=w.heap.size+1:=by rw [au];simp
  refine ⟨by rw [ay,au];exact (((zd.refl r w).alloc _).alloc _).alloc _,?_,?_⟩
  ·rw [ay,Below.heap_alloc _ _ _ (by simp;omega),Below.heap_alloc _ _ _ (by omega),au];exact World.alloc_heap_new _ _
  ·have:=World.alloc_heap_new (w0.alloc (ZK t0)) xw
   rw [ay,hP];rw [show (w0.alloc (ZK t0)).heap.size=w.heap.size+2 by simp [bi]] at this
   exact this
 have aS:Hid (SB r w P w1):=ba;have a4:Hid (w0=w.alloc xw):=au;have a2:Hid (w1=(w0.alloc (ZK t0)).alloc xw):=ay;have aa:Hid (w.heap.size<P):=show _<_ by omega
 have a5:Hid (w0.heap.size+1=P):=by show _=_;rw [au,hP];simp
 have aH:Hid (∀w1 o1 cap1 ts1 r1,zf F 1 ts1=some r1→zi ts1→zg r g o1 cap1 ts1 w1→zd r w w1→Calls Tryz.prog 44 #[.pointer (some ⟨r,0,none⟩)] w1 (zJ r g w1 r1)):=hex;have a6:Hid (∀w1 o1 cap1 ts1 r1,zH F ts1=some r1→zi ts1→zg r g o1 cap1 ts1 w1→zd r w w1→Calls Tryz.prog 100 #[.pointer (some ⟨r,0,none⟩)] w1 (X5 r g w1 r1)):=hbl;rw [Ze] at hp;simp only [zE,List.tail_cons] at hp;have c1:=Zx r g o cap t0 Y [108,101,116] w1 h1 (fun hi=>(hE.tail (zj hi)).ne)
 obtain ⟨G,aY⟩:∃G,G=t0.line:=⟨_,rfl⟩;have bf:Hid (G=t0.line):=aY;rw [←aY] at hp;clear h h0 h1 au ay hP ba hex hbl aY
 go_enter Tryz.func136,Tryz.ntmps136
 go_wp2_with fail
 rw [←a4.out];refine ch.mono ?_;clear ch;rintro e w' ⟨rfl,he⟩;subst he;simp only [uB];rw [←bf.out]
 go_upto_region 4 with fail
 rw [←a2.out];rw [a5.out];clear a4 a2 a5 hf
 by_cases i1:zm t0 [108,101,116]=true
 ·rw [i1] at c1
  rw [if_pos i1] at hp;have D:=hE.tail (zj i1);go_wp2_with fail
  refine c1.mono ?_;clear c1;rintro e w2 ⟨rfl,aJ,h2⟩;have ap:zg r g (o+5) (cap-1) Y w2:=by simpa using h2
  have al:Hid (SB r w P w2):=aS.out.next aJ hr aa.out
  have cl:∃R0,R=atL G R0∧Calls Tryz.prog 166 #[.pointer (some ⟨r,0,none⟩)] w2 (ZH r g w2 R0):=by
   obtain ⟨t1,ao,rfl⟩:=D.cons;cases ao with
   | nil =>
    have bv:t1.k=0:=D;refine ⟨.error t1.at0,?_,zfc r g _ _ t1 w2 ap (by omega)⟩
    simp only [Z3,zE,zh,if_neg (show ¬ t1.k=1 by omega),Option.some.injEq] at hp
    rw [←hp];rfl
   | cons t2 us2 =>
    obtain ⟨res,hR,aB⟩:=zgI hp;refine ⟨QP t1 t2 res,hR,?_⟩
    by_cases hc:t1.k=1∧zm t2 [61]=true
    ·have hb:=aB hc.1 hc.2
     have a8:zi us2:=(D.tail (by omega)).tail (zj hc.2)
     exact zhp r g _ _ t1 t2 us2 w2 res ap D (fun l us e=>by subst e;exact (Zi F).1 _ _ _ _ hb a8) fun _ _ w3 o3 aL hR3 hK3=>aH.out w3 o3 aL us2 res hb a8 hR3 (al.out.k.trans hK3)
    ·have e9:QP t1 t2 res=QP t1 t2 (.error 0):=by
      unfold QP
      by_cases h1:t1.k=1
      ·rw [if_pos h1,if_pos h1,if_neg (fun h9=>hc ⟨h1,h9⟩),if_neg (fun h9=>hc ⟨h1,h9⟩)]
      ·rw [if_neg h1,if_neg h1]
     rw [e9];exact zhp r g _ _ t1 t2 us2 w2 (.error 0) ap D (fun l us e=>by cases e) fun h1 h9=>absurd ⟨h1,h9⟩ hc
  obtain ⟨R0,rfl,cl⟩:=cl;clear aJ h2 ap hp D;go_wp2_with fail
  refine cl.mono ?_;clear cl;rintro e w3 ⟨am,y⟩;have Z:Hid (SB r w P w3):=al.out.next am hr aa.out;rcases R0 with a | ⟨x,us⟩
  ·obtain rfl:=y
   exact ⟨rfl,Z.out.k,rfl⟩
  ·obtain ⟨v,o3,aL,rfl,hx,aR⟩:=y
   obtain ⟨Q,L,H,V,U,N,I,J,O,T,W,qc,rfl⟩:=hx.agg;have HX:Hid (yv (fun k=>w2.heap.size≤k) w3 x (.agg #[.int .i64 Q,.string L,.slice H V U,.slice N I J,.slice O T W,.int .i64 qc])):=hx
   have aj:Hid (zg r g o3 aL us w3):=aR;have ar:=al.out.lt;have ag:=aa.out;obtain ⟨m0,m1,m2,m3,m4,m5,mf⟩:=zM Z.out.p;obtain ⟨wS,A⟩:∃wS,wS=(((((((((((w3.setCell ⟨P,0,none⟩ (.int .i64 Q))).setCell ⟨P,1,none⟩ (.string L))).setCell ⟨P,2,none⟩ (.slice H V U))).setCell ⟨P,3,none⟩ (.slice N I J))).setCell ⟨P,4,none⟩ (.slice O T W))).setCell ⟨P,5,none⟩ (.int .i64 qc)):=⟨_,rfl⟩;have pS:wS.heap[P]?=some (XC Q L (.slice H V U) (.slice N I J) (.slice O T W) qc):=by rw [A];exact Zu Z.out.p (.int .i64 Q) (.string L) (.slice H V U) (.slice N I J) (.slice O T W) (.int .i64 qc)
   have sS:∀k,k≠P→wS.heap[k]?=w3.heap[k]?:=fun k hk=>by rw [A];exact Yp w3 P (.int .i64 Q) (.string L) (.slice H V U) (.slice N I J) (.slice O T W) (.int .i64 qc) hk
   have kS:zd r w wS:=by rw [A];exact xm Z.out.k (Nat.le_of_lt ag) _ _ _ _ _ _
   have zS:wS.heap.size=w3.heap.size:=by rw [A];simp
   obtain ⟨-,-,-,-,-,s5,sf⟩:=zM pS;have aN:=sf 5;obtain ⟨wL,z⟩:∃wL,wL=wS.setCell ⟨P,5,none⟩ (.int .i64 (G:Int)):=⟨_,rfl⟩;have pL:wL.heap[P]?=some (XC Q L (.slice H V U) (.slice N I J) (.slice O T W) (G:Int)):=by rw [z];exact zq _ pS
   have sL:∀k,k≠P→wL.heap[k]?=w3.heap[k]?:=fun k hk=>by rw [z,Below.heap_setCell _ _ _ _ (by simpa using hk)];exact sS k hk
   have kL:zd r w wL:=by rw [z];exact kS.setOther (by simp;omega) _
   have zL:wL.heap.size=w3.heap.size:=by rw [z];simpa using zS
   have nL:wL.heap[w.heap.size]?=some xw:=(sL _ (by omega)).trans Z.out.n
   have HP:Hid (ZH r g w (.ok (x.at G,us)) (.returned (.agg #[.int .i64 Q,.string L,.slice H V U,.slice N I J,.slice O T W,.int .i64 (G:Int)])) (XB wL w.heap.size (.int .i64 Q) (.string L) (.slice H V U) (.slice N I J) (.slice O T W) (.int .i64 (G:Int)))):=ZH.lined G HX.out kL zL sL ar ag hr aI aj.out;obtain ⟨x0,x1,x2,x3,x4,x5,-⟩:=zM pL;obtain ⟨y0,y1,y2,y3,y4,y5,yf⟩:=zM nL;obtain ⟨z0,z1,z2,z3,z4,z5,-⟩:=zM (Zu nL (.int .i64 Q) (.string L) (.slice H V U) (.slice N I J) (.slice O T W) (.int .i64 (G:Int)));have af:Hid (wS=(((((((((((w3.setCell ⟨P,0,none⟩ (.int .i64 Q))).setCell ⟨P,1,none⟩ (.string L))).setCell ⟨P,2,none⟩ (.slice H V U))).setCell ⟨P,3,none⟩ (.slice N I J))).setCell ⟨P,4,none⟩ (.slice O T W))).setCell ⟨P,5,none⟩ (.int .i64 qc))):=A;have ax:=z.symm;clear hx aR am A z pS sS kS zS sf pL sL kL zL nL HX aj
   go_upto_region 13 with fail
   rw [←af.out];clear af m0 m1 m2 m3 m4 m5 mf;go_wp2
   exact bodyPost_ret (v:=.agg #[.int .i64 Q,.string L,.slice H V U,.slice N I J,.slice O T W,.int .i64 (G:Int)]) (by simp [results,Tryz.results136,go_sem,z0,z1,z2,z3,z4,z5]) rfl HP.out
 ·have bd:zm t0 [108,101,116]=false:=by simpa using i1
  rw [bd] at c1;rw [if_neg i1] at hp;go_wp2_with fail
  refine c1.mono ?_;clear c1;rintro e w2 ⟨rfl,aJ,h2⟩;have ap:zg r g o cap (t0::Y) w2:=by simpa using h2
  have al:Hid (SB r w P w2):=aS.out.next aJ hr aa.out;have c2:=Zx r g o cap t0 Y [105,102] w2 ap (fun hi=>(hE.tail (zj hi)).ne)
  clear aJ h2 ap
  by_cases i2:zm t0 [105,102]=true
  ·rw [i2] at c2
   rw [if_pos i2] at hp;have D:=hE.tail (zj i2);go_wp2_with fail
   refine c2.mono ?_;clear c2;rintro e w3 ⟨rfl,am,h3⟩;have aM:zg r g (o+5) (cap-1) Y w3:=by simpa using h3
   have Z:Hid (SB r w P w3):=al.out.next am hr aa.out
   have cl:∃R0,R=atL G R0∧Calls Tryz.prog 167 #[.pointer (some ⟨r,0,none⟩)] w3 (ZH r g w3 R0):=by
    obtain ⟨R0,h9,h8⟩:=zbY F Y G hp;exact ⟨R0,h8.symm,ze3 r g _ _ F Y w3 R0 aM D h9 (fun w1 o1 cap1 ts1 r1 hb D hR hK=>aH.out w1 o1 cap1 ts1 r1 hb D hR (Z.out.k.trans hK)) (fun w1 o1 cap1 ts1 r1 hb D hR hK=>a6.out w1 o1 cap1 ts1 r1 hb D hR (Z.out.k.trans hK))⟩
   obtain ⟨R0,rfl,cl⟩:=cl;clear am h3 aM hp D;go_wp2_with fail
   refine cl.mono ?_;clear cl;rintro e w4 ⟨an,y⟩;have ab:Hid (SB r w P w4):=Z.out.next an hr aa.out;rcases R0 with a | ⟨x,us⟩
   ·obtain rfl:=y
    exact ⟨rfl,ab.out.k,rfl⟩
   ·obtain ⟨v,o4,a7,rfl,hx,aV⟩:=y
    obtain ⟨Q,L,H,V,U,N,I,J,O,T,W,qc,rfl⟩:=hx.agg;have HX:Hid (yv (fun k=>w3.heap.size≤k) w4 x (.agg #[.int .i64 Q,.string L,.slice H V U,.slice N I J,.slice O T W,.int .i64 qc])):=hx
    have aj:Hid (zg r g o4 a7 us w4):=aV;have ar:=Z.out.lt;have ag:=aa.out;obtain ⟨m0,m1,m2,m3,m4,m5,mf⟩:=zM ab.out.p;obtain ⟨wS,A⟩:∃wS,wS=(((((((((((w4.setCell ⟨P,0,none⟩ (.int .i64 Q))).setCell ⟨P,1,none⟩ (.string L))).setCell ⟨P,2,none⟩ (.slice H V U))).setCell ⟨P,3,none⟩ (.slice N I J))).setCell ⟨P,4,none⟩ (.slice O T W))).setCell ⟨P,5,none⟩ (.int .i64 qc)):=⟨_,rfl⟩;have pS:wS.heap[P]?=some (XC Q L (.slice H V U) (.slice N I J) (.slice O T W) qc):=by rw [A];exact Zu ab.out.p (.int .i64 Q) (.string L) (.slice H V U) (.slice N I J) (.slice O T W) (.int .i64 qc)
    have sS:∀k,k≠P→wS.heap[k]?=w4.heap[k]?:=fun k hk=>by rw [A];exact Yp w4 P (.int .i64 Q) (.string L) (.slice H V U) (.slice N I J) (.slice O T W) (.int .i64 qc) hk
    have kS:zd r w wS:=by rw [A];exact xm ab.out.k (Nat.le_of_lt ag) _ _ _ _ _ _
    have zS:wS.heap.size=w4.heap.size:=by rw [A];simp
    obtain ⟨-,-,-,-,-,s5,sf⟩:=zM pS;have aN:=sf 5;obtain ⟨wL,z⟩:∃wL,wL=wS.setCell ⟨P,5,none⟩ (.int .i64 (G:Int)):=⟨_,rfl⟩;have pL:wL.heap[P]?=some (XC Q L (.slice H V U) (.slice N I J) (.slice O T W) (G:Int)):=by rw [z];exact zq _ pS
    have sL:∀k,k≠P→wL.heap[k]?=w4.heap[k]?:=fun k hk=>by rw [z,Below.heap_setCell _ _ _ _ (by simpa using hk)];exact sS k hk
    have kL:zd r w wL:=by rw [z];exact kS.setOther (by simp;omega) _
    have zL:wL.heap.size=w4.heap.size:=by rw [z];simpa using zS
    have nL:wL.heap[w.heap.size]?=some xw:=(sL _ (by omega)).trans ab.out.n
    have HP:Hid (ZH r g w (.ok (x.at G,us)) (.returned (.agg #[.int .i64 Q,.string L,.slice H V U,.slice N I J,.slice O T W,.int .i64 (G:Int)])) (XB wL w.heap.size (.int .i64 Q) (.string L) (.slice H V U) (.slice N I J) (.slice O T W) (.int .i64 (G:Int)))):=ZH.lined G HX.out kL zL sL ar ag hr aI aj.out;obtain ⟨x0,x1,x2,x3,x4,x5,-⟩:=zM pL;obtain ⟨y0,y1,y2,y3,y4,y5,yf⟩:=zM nL;obtain ⟨z0,z1,z2,z3,z4,z5,-⟩:=zM (Zu nL (.int .i64 Q) (.string L) (.slice H V U) (.slice N I J) (.slice O T W) (.int .i64 (G:Int)));have af:Hid (wS=(((((((((((w4.setCell ⟨P,0,none⟩ (.int .i64 Q))).setCell ⟨P,1,none⟩ (.string L))).setCell ⟨P,2,none⟩ (.slice H V U))).setCell ⟨P,3,none⟩ (.slice N I J))).setCell ⟨P,4,none⟩ (.slice O T W))).setCell ⟨P,5,none⟩ (.int .i64 qc))):=A;have ax:=z.symm;clear hx aV an A z pS sS kS zS sf pL sL kL zL nL HX aj
    go_upto_region 13 with fail
    rw [←af.out];clear af m0 m1 m2 m3 m4 m5 mf;go_wp2
    exact bodyPost_ret (v:=.agg #[.int .i64 Q,.string L,.slice H V U,.slice N I J,.slice O T W,.int .i64 (G:Int)]) (by simp [results,Tryz.results136,go_sem,z0,z1,z2,z3,z4,z5]) rfl HP.out
  ·have bh:zm t0 [105,102]=false:=by simpa using i2
   rw [bh] at c2;rw [if_neg i2] at hp;go_wp2_with fail
   refine c2.mono ?_;clear c2;rintro e w3 ⟨rfl,am,h3⟩;have aM:zg r g o cap (t0::Y) w3:=by simpa using h3
   have Z:Hid (SB r w P w3):=al.out.next am hr aa.out;have c3:=Zx r g o cap t0 Y [119,104,105,108,101] w3 aM (fun hi=>(hE.tail (zj hi)).ne)
   clear am h3 aM
   by_cases i3:zm t0 [119,104,105,108,101]=true
   ·rw [i3] at c3
    rw [if_pos i3] at hp;have D:=hE.tail (zj i3);go_wp2_with fail
    refine c3.mono ?_;clear c3;rintro e w4 ⟨rfl,an,h4⟩;have aF:zg r g (o+5) (cap-1) Y w4:=by simpa using h4
    have ab:Hid (SB r w P w4):=Z.out.next an hr aa.out;cases hb1:zf F 1 Y with
    | none=>rw [hb1] at hp;cases hp
    | some r1 =>
     rw [hb1] at hp;have ce:=aH.out w4 _ _ Y r1 hb1 D aF ab.out.k;clear h4 aF an;go_wp2_with fail
     refine ce.mono ?_;clear ce;rintro e w5 ⟨ak,y⟩;have ad:Hid (SB r w P w5):=ab.out.next ak hr aa.out;rcases r1 with a | ⟨x,us⟩
     ·obtain rfl:=y
      simp only [zh,Option.some.injEq] at hp;subst hp;exact ⟨rfl,ad.out.k,rfl⟩
     ·obtain ⟨v,o5,aE,rfl,hx,aO⟩:=y
      obtain ⟨xa,xb,xc,x0,x1,x2,xl,rfl⟩:=hx.agg;have a9:=(Zi F).1 _ _ _ _ hb1 D;simp only [zh] at hp;cases hb2:zH F us with
      | none=>rw [hb2] at hp;cases hp
      | some r2 =>
       rw [hb2] at hp;obtain ⟨wA,aq⟩:∃wA,wA=w5.alloc (exO xa xb xc (.slice x0 x1 x2) xl):=⟨_,rfl⟩;have aw:Hid (SB r w P wA):=by rw [aq];exact ad.out.next ((zd.refl r w5).alloc _) hr aa.out
       have a1:=ad.out.lt;have aD:=zK.one (S:=fun k=>w4.heap.size≤k) 45 (c:=[.int .i64 xa,.string xb,.int .i64 xc,.slice x0 x1 x2,.int .i64 xl]) hx rfl ak.size
       have be:wA.heap.size=w5.heap.size+1:=by rw [aq];simp
       have aP:=ab.out.lt;have ag:=aa.out;obtain ⟨t2,us2,rfl⟩:=a9.cons;have aT:zg r g o5 aE (t2::us2) wA:=by rw [aq];exact aO.alloc _
       obtain ⟨m0,m1,m2,m3,m4,m5,mf⟩:=zM aw.out.p;obtain ⟨wS,A⟩:∃wS,wS=(((((((((((wA.setCell ⟨P,0,none⟩ (.int .i64 5))).setCell ⟨P,1,none⟩ (.string ⟨#[]⟩))).setCell ⟨P,2,none⟩ (.slice (some ⟨w5.heap.size,0,none⟩) 1 1))).setCell ⟨P,3,none⟩ (.slice none 0 0))).setCell ⟨P,4,none⟩ (.slice none 0 0))).setCell ⟨P,5,none⟩ (.int .i64 0)):=⟨_,rfl⟩;have pS:wS.heap[P]?=some (XC 5 ⟨#[]⟩ (.slice (some ⟨w5.heap.size,0,none⟩) 1 1) (.slice none 0 0) (.slice none 0 0) 0):=by rw [A];exact Zu aw.out.p (.int .i64 5) (.string ⟨#[]⟩) (.slice (some ⟨w5.heap.size,0,none⟩) 1 1) (.slice none 0 0) (.slice none 0 0) (.int .i64 0)
       have sS:∀k,k≠P→wS.heap[k]?=wA.heap[k]?:=fun k hk=>by rw [A];exact Yp wA P (.int .i64 5) (.string ⟨#[]⟩) (.slice (some ⟨w5.heap.size,0,none⟩) 1 1) (.slice none 0 0) (.slice none 0 0) (.int .i64 0) hk
       have kS:zd r w wS:=by rw [A];exact xm aw.out.k (Nat.le_of_lt ag) _ _ _ _ _ _
       have zS:wS.heap.size=wA.heap.size:=by rw [A];simp
       have aU:zg r g o5 aE (t2::us2) wS:=aT.keep (sS r (by omega)) (sS g (by omega))
       have aG:zK (fun k=>w4.heap.size≤k) wS [x] (.slice (some ⟨w5.heap.size,0,none⟩) 1 1):=by
        have h9:zK (fun k=>w4.heap.size≤k) wA [x] (.slice (some ⟨w5.heap.size,0,none⟩) 1 1):=by rw [aq];exact aD
        exact h9.kept (by omega) fun k hk _=>sS k (by omega)
       have cb:=a6.out wS o5 aE (t2::us2) r2 hb2 a9 aU kS;have bo:Hid (wA=w5.alloc (exO xa xb xc (.slice x0 x1 x2) xl)):=aq;have af:Hid (wS=(((((((((((wA.setCell ⟨P,0,none⟩ (.int .i64 5))).setCell ⟨P,1,none⟩ (.string ⟨#[]⟩))).setCell ⟨P,2,none⟩ (.slice (some ⟨w5.heap.size,0,none⟩) 1 1))).setCell ⟨P,3,none⟩ (.slice none 0 0))).setCell ⟨P,4,none⟩ (.slice none 0 0))).setCell ⟨P,5,none⟩ (.int .i64 0))):=A;have aX:Hid (wS.heap[P]?=some (XC 5 ⟨#[]⟩ (.slice (some ⟨w5.heap.size,0,none⟩) 1 1) (.slice none 0 0) (.slice none 0 0) 0)):=pS;have a0:Hid (wS.heap[w.heap.size]?=some xw):=(sS _ (by omega)).trans aw.out.n
       have aW:Hid (zd r w wS):=kS;have aC:Hid (zK (fun k=>w4.heap.size≤k) wS [x] (.slice (some ⟨w5.heap.size,0,none⟩) 1 1)):=aG
       have HZ:Hid (P<w4.heap.size∧w4.heap.size≤wS.heap.size):=⟨aP,by have:=ak.size;omega⟩
       have a3:=aq.symm;clear hx aO aT aU aD aG be aq A pS sS kS zS ak aP a1
       go_upto_region 10 with fail
       rw [←af.out];clear af m0 m1 m2 m3 m4 m5 mf a3;go_wp2_with fail
       refine cb.mono ?_;clear cb;rintro e w6 ⟨ai,y⟩;rcases r2 with a | ⟨bl,bk⟩
       ·obtain rfl:=y
        simp only [Option.some.injEq] at hp;subst hp;exact ⟨rfl,aW.out.trans ai,rfl⟩
       ·obtain ⟨vb,o6,av,rfl,aZ,ah⟩:=y
        simp only [Option.some.injEq] at hp;subst hp;obtain ⟨c0,c1,c2,rfl⟩:=aZ.slice;have hz:=HZ.out;have bb:P<wS.heap.size:=(Array.getElem?_eq_some_iff.1 aX.out).1;have bc:w.heap.size<wS.heap.size:=(Array.getElem?_eq_some_iff.1 a0.out).1;have p6:=(ai.block P bb (by omega)).trans aX.out
        have n6:=(ai.block w.heap.size bc (by omega)).trans a0.out
        have k6:zd r w w6:=aW.out.trans ai;obtain ⟨-,-,-,g3,-,-,gf⟩:=zM p6;have bt:=gf 3;obtain ⟨wB,aA⟩:∃wB,wB=w6.setCell ⟨P,3,none⟩ (.slice c0 c1 c2):=⟨_,rfl⟩;have pB:wB.heap[P]?=some (XC 5 ⟨#[]⟩ (.slice (some ⟨w5.heap.size,0,none⟩) 1 1) (.slice c0 c1 c2) (.slice none 0 0) 0):=by rw [aA];exact zq _ p6
        have sB:∀k,k≠P→wB.heap[k]?=w6.heap[k]?:=fun k hk=>by rw [aA];exact Below.heap_setCell _ _ _ _ (by simpa using hk)
        have kB:zd r w wB:=by rw [aA];exact k6.setOther (by simp;omega) _
        have zB:wB.heap.size=w6.heap.size:=by rw [aA];simp
        obtain ⟨-,-,-,-,-,s5,sf⟩:=zM pB;have aN:=sf 5;obtain ⟨wL,z⟩:∃wL,wL=wB.setCell ⟨P,5,none⟩ (.int .i64 (G:Int)):=⟨_,rfl⟩;have pL:wL.heap[P]?=some (XC 5 ⟨#[]⟩ (.slice (some ⟨w5.heap.size,0,none⟩) 1 1) (.slice c0 c1 c2) (.slice none 0 0) (G:Int)):=by rw [z];exact zq _ pB
        have sL:∀k,k≠P→wL.heap[k]?=w6.heap[k]?:=fun k hk=>by rw [z,Below.heap_setCell _ _ _ _ (by simpa using hk)];exact sB k hk
        have kL:zd r w wL:=by rw [z];exact kB.setOther (by simp;omega) _
        have zL:wL.heap.size=w6.heap.size:=by rw [z];simpa using zB
        have nL:wL.heap[w.heap.size]?=some xw:=(sL _ (by omega)).trans n6
        have aK:zK (fun k=>w4.heap.size≤k) wL [x] (.slice (some ⟨w5.heap.size,0,none⟩) 1 1):=(aC.out.keptR ai fun k hk=>by omega).kept (by omega) fun k hk _=>sL k (by omega)
        have aQ:z8 (fun k=>w4.heap.size≤k) wL bl (.slice c0 c1 c2):=(aZ.kept (w':=wL) (by omega) fun k hk _=>sL k (by omega)).wide fun k hk=>by omega
        have HP:Hid (ZH r g w (.ok (.mk 5 [] [x] bl [] G,bk)) (.returned (.agg #[.int .i64 5,.string ⟨#[]⟩,.slice (some ⟨w5.heap.size,0,none⟩) 1 1,.slice c0 c1 c2,.slice none 0 0,.int .i64 (G:Int)])) (XB wL w.heap.size (.int .i64 5) (.string ⟨#[]⟩) (.slice (some ⟨w5.heap.size,0,none⟩) 1 1) (.slice c0 c1 c2) (.slice none 0 0) (.int .i64 (G:Int)))) :=
         ZH.of_set6 (B:=w4.heap.size) 5 [] G kL (Nat.le_refl _) hr aI aK aQ (z8.nil _ _) (by omega) (ah.keep (sL r (by omega)) (sL g (by omega)))
        obtain ⟨bp,bu,br,bn,bq,bs,-⟩:=zM pL;obtain ⟨y0,y1,y2,y3,y4,y5,yf⟩:=zM nL;obtain ⟨z0,z1,z2,z3,z4,z5,-⟩:=zM (Zu nL (.int .i64 5) (.string ⟨#[]⟩) (.slice (some ⟨w5.heap.size,0,none⟩) 1 1) (.slice c0 c1 c2) (.slice none 0 0) (.int .i64 (G:Int)));have bm:=aA.symm;have ax:=z.symm;clear aA z pB sB kB zB sf gf pL sL kL zL nL aK aQ p6 n6 k6 hz bb bc aZ ah ai aX a0 aW aC HZ;go_wp2
        exact bodyPost_ret (v:=.agg #[.int .i64 5,.string ⟨#[]⟩,.slice (some ⟨w5.heap.size,0,none⟩) 1 1,.slice c0 c1 c2,.slice none 0 0,.int .i64 (G:Int)]) (by simp [results,Tryz.results136,go_sem,z0,z1,z2,z3,z4,z5]) rfl HP.out
   ·have bj:zm t0 [119,104,105,108,101]=false:=by simpa using i3
    rw [bj] at c3;rw [if_neg i3] at hp;go_wp2_with fail
    refine c3.mono ?_;clear c3;rintro e w4 ⟨rfl,an,h4⟩;have aF:zg r g o cap (t0::Y) w4:=by simpa using h4
    have ab:Hid (SB r w P w4):=Z.out.next an hr aa.out;have c4:=Zx r g o cap t0 Y [114,101,116,117,114,110] w4 aF (fun hi=>(hE.tail (zj hi)).ne)
    clear an h4 aF
    by_cases i4:zm t0 [114,101,116,117,114,110]=true
    ·rw [i4] at c4
     rw [if_pos i4] at hp;have D:=hE.tail (zj i4);go_wp2_with fail
     refine c4.mono ?_;clear c4;rintro e w5 ⟨rfl,ak,h5⟩;have az:zg r g (o+5) (cap-1) Y w5:=by simpa using h5
     have ad:Hid (SB r w P w5):=ab.out.next ak hr aa.out
     have cl:∃R0,R=atL G R0∧Calls Tryz.prog 168 #[.pointer (some ⟨r,0,none⟩)] w5 (ZH r g w5 R0):=by
      obtain ⟨t1,ao,rfl⟩:=D.cons;obtain ⟨res,hR,aB⟩:=zb6 hp;refine ⟨xf t1 ao res,hR,?_⟩
      by_cases hc:zm t1 [59]=false
      ·have hb:=aB hc
       exact zaV r g _ _ t1 ao w5 res az D (fun l us e=>by subst e;exact (Zi F).1 _ _ _ _ hb D) fun _ w1 o1 cap1 hR1 hK1=>aH.out w1 o1 cap1 (t1::ao) res hb D hR1 (ad.out.k.trans hK1)
      ·have e9:xf t1 ao res=xf t1 ao (.error 0):=by
        unfold xf
        rw [if_pos (by simpa using hc),if_pos (by simpa using hc)]
       rw [e9];exact zaV r g _ _ t1 ao w5 (.error 0) az D (fun l us e=>by cases e) fun h9=>absurd h9 hc
     obtain ⟨R0,rfl,cl⟩:=cl;clear ak h5 az hp D;go_wp2_with fail
     refine cl.mono ?_;clear cl;rintro e w6 ⟨ai,y⟩;have ae:Hid (SB r w P w6):=ad.out.next ai hr aa.out;rcases R0 with a | ⟨x,us⟩
     ·obtain rfl:=y
      exact ⟨rfl,ae.out.k,rfl⟩
     ·obtain ⟨v,o6,av,rfl,hx,ah⟩:=y
      obtain ⟨Q,L,H,V,U,N,I,J,O,T,W,qc,rfl⟩:=hx.agg;have HX:Hid (yv (fun k=>w5.heap.size≤k) w6 x (.agg #[.int .i64 Q,.string L,.slice H V U,.slice N I J,.slice O T W,.int .i64 qc])):=hx
      have aj:Hid (zg r g o6 av us w6):=ah;have ar:=ad.out.lt;have ag:=aa.out;obtain ⟨m0,m1,m2,m3,m4,m5,mf⟩:=zM ae.out.p;obtain ⟨wS,A⟩:∃wS,wS=(((((((((((w6.setCell ⟨P,0,none⟩ (.int .i64 Q))).setCell ⟨P,1,none⟩ (.string L))).setCell ⟨P,2,none⟩ (.slice H V U))).setCell ⟨P,3,none⟩ (.slice N I J))).setCell ⟨P,4,none⟩ (.slice O T W))).setCell ⟨P,5,none⟩ (.int .i64 qc)):=⟨_,rfl⟩;have pS:wS.heap[P]?=some (XC Q L (.slice H V U) (.slice N I J) (.slice O T W) qc):=by rw [A];exact Zu ae.out.p (.int .i64 Q) (.string L) (.slice H V U) (.slice N I J) (.slice O T W) (.int .i64 qc)
      have sS:∀k,k≠P→wS.heap[k]?=w6.heap[k]?:=fun k hk=>by rw [A];exact Yp w6 P (.int .i64 Q) (.string L) (.slice H V U) (.slice N I J) (.slice O T W) (.int .i64 qc) hk
      have kS:zd r w wS:=by rw [A];exact xm ae.out.k (Nat.le_of_lt ag) _ _ _ _ _ _
      have zS:wS.heap.size=w6.heap.size:=by rw [A];simp
      obtain ⟨-,-,-,-,-,s5,sf⟩:=zM pS;have aN:=sf 5;obtain ⟨wL,z⟩:∃wL,wL=wS.setCell ⟨P,5,none⟩ (.int .i64 (G:Int)):=⟨_,rfl⟩;have pL:wL.heap[P]?=some (XC Q L (.slice H V U) (.slice N I J) (.slice O T W) (G:Int)):=by rw [z];exact zq _ pS
      have sL:∀k,k≠P→wL.heap[k]?=w6.heap[k]?:=fun k hk=>by rw [z,Below.heap_setCell _ _ _ _ (by simpa using hk)];exact sS k hk
      have kL:zd r w wL:=by rw [z];exact kS.setOther (by simp;omega) _
      have zL:wL.heap.size=w6.heap.size:=by rw [z];simpa using zS
      have nL:wL.heap[w.heap.size]?=some xw:=(sL _ (by omega)).trans ae.out.n
      have HP:Hid (ZH r g w (.ok (x.at G,us)) (.returned (.agg #[.int .i64 Q,.string L,.slice H V U,.slice N I J,.slice O T W,.int .i64 (G:Int)])) (XB wL w.heap.size (.int .i64 Q) (.string L) (.slice H V U) (.slice N I J) (.slice O T W) (.int .i64 (G:Int)))):=ZH.lined G HX.out kL zL sL ar ag hr aI aj.out;obtain ⟨x0,x1,x2,x3,x4,x5,-⟩:=zM pL;obtain ⟨y0,y1,y2,y3,y4,y5,yf⟩:=zM nL;obtain ⟨z0,z1,z2,z3,z4,z5,-⟩:=zM (Zu nL (.int .i64 Q) (.string L) (.slice H V U) (.slice N I J) (.slice O T W) (.int .i64 (G:Int)));have af:Hid (wS=(((((((((((w6.setCell ⟨P,0,none⟩ (.int .i64 Q))).setCell ⟨P,1,none⟩ (.string L))).setCell ⟨P,2,none⟩ (.slice H V U))).setCell ⟨P,3,none⟩ (.slice N I J))).setCell ⟨P,4,none⟩ (.slice O T W))).setCell ⟨P,5,none⟩ (.int .i64 qc))):=A;have ax:=z.symm;clear hx ah ai A z pS sS kS zS sf pL sL kL zL nL HX aj
      go_upto_region 13 with fail
      rw [←af.out];clear af m0 m1 m2 m3 m4 m5 mf;go_wp2
      exact bodyPost_ret (v:=.agg #[.int .i64 Q,.string L,.slice H V U,.slice N I J,.slice O T W,.int .i64 (G:Int)]) (by simp [results,Tryz.results136,go_sem,z0,z1,z2,z3,z4,z5]) rfl HP.out
    ·have bg:zm t0 [114,101,116,117,114,110]=false:=by simpa using i4
     rw [bg] at c4;rw [if_neg i4] at hp;go_wp2_with fail
     refine c4.mono ?_;clear c4;rintro e w5 ⟨rfl,ak,h5⟩;have az:zg r g o cap (t0::Y) w5:=by simpa using h5
     have ad:Hid (SB r w P w5):=ab.out.next ak hr aa.out
     have cl:∃R0,R=atL G R0∧Calls Tryz.prog 169 #[.pointer (some ⟨r,0,none⟩)] w5 (ZH r g w5 R0):=by
      obtain ⟨R0,h9,h8⟩:=zgv F (t0::Y) G hp;exact ⟨R0,h8.symm,zdO r g _ _ F (t0::Y) w5 R0 az hE h9 (fun w1 o1 cap1 ts1 r1 hb D hR hK=>aH.out w1 o1 cap1 ts1 r1 hb D hR (ad.out.k.trans hK))⟩
     obtain ⟨R0,rfl,cl⟩:=cl;clear ak h5 az hp;go_wp2_with fail
     refine cl.mono ?_;clear cl;rintro e w6 ⟨ai,y⟩;have ae:Hid (SB r w P w6):=ad.out.next ai hr aa.out;rcases R0 with a | ⟨x,us⟩
     ·obtain rfl:=y
      exact ⟨rfl,ae.out.k,rfl⟩
     ·obtain ⟨v,o6,av,rfl,hx,ah⟩:=y
      obtain ⟨Q,L,H,V,U,N,I,J,O,T,W,qc,rfl⟩:=hx.agg;have HX:Hid (yv (fun k=>w5.heap.size≤k) w6 x (.agg #[.int .i64 Q,.string L,.slice H V U,.slice N I J,.slice O T W,.int .i64 qc])):=hx
      have aj:Hid (zg r g o6 av us w6):=ah;have ar:=ad.out.lt;have ag:=aa.out;obtain ⟨m0,m1,m2,m3,m4,m5,mf⟩:=zM ae.out.p;obtain ⟨wS,A⟩:∃wS,wS=(((((((((((w6.setCell ⟨P,0,none⟩ (.int .i64 Q))).setCell ⟨P,1,none⟩ (.string L))).setCell ⟨P,2,none⟩ (.slice H V U))).setCell ⟨P,3,none⟩ (.slice N I J))).setCell ⟨P,4,none⟩ (.slice O T W))).setCell ⟨P,5,none⟩ (.int .i64 qc)):=⟨_,rfl⟩;have pS:wS.heap[P]?=some (XC Q L (.slice H V U) (.slice N I J) (.slice O T W) qc):=by rw [A];exact Zu ae.out.p (.int .i64 Q) (.string L) (.slice H V U) (.slice N I J) (.slice O T W) (.int .i64 qc)
      have sS:∀k,k≠P→wS.heap[k]?=w6.heap[k]?:=fun k hk=>by rw [A];exact Yp w6 P (.int .i64 Q) (.string L) (.slice H V U) (.slice N I J) (.slice O T W) (.int .i64 qc) hk
      have kS:zd r w wS:=by rw [A];exact xm ae.out.k (Nat.le_of_lt ag) _ _ _ _ _ _
      have zS:wS.heap.size=w6.heap.size:=by rw [A];simp
      obtain ⟨-,-,-,-,-,s5,sf⟩:=zM pS;have aN:=sf 5;obtain ⟨wL,z⟩:∃wL,wL=wS.setCell ⟨P,5,none⟩ (.int .i64 (G:Int)):=⟨_,rfl⟩;have pL:wL.heap[P]?=some (XC Q L (.slice H V U) (.slice N I J) (.slice O T W) (G:Int)):=by rw [z];exact zq _ pS
      have sL:∀k,k≠P→wL.heap[k]?=w6.heap[k]?:=fun k hk=>by rw [z,Below.heap_setCell _ _ _ _ (by simpa using hk)];exact sS k hk
      have kL:zd r w wL:=by rw [z];exact kS.setOther (by simp;omega) _
      have zL:wL.heap.size=w6.heap.size:=by rw [z];simpa using zS
      have nL:wL.heap[w.heap.size]?=some xw:=(sL _ (by omega)).trans ae.out.n
      have HP:Hid (ZH r g w (.ok (x.at G,us)) (.returned (.agg #[.int .i64 Q,.string L,.slice H V U,.slice N I J,.slice O T W,.int .i64 (G:Int)])) (XB wL w.heap.size (.int .i64 Q) (.string L) (.slice H V U) (.slice N I J) (.slice O T W) (.int .i64 (G:Int)))):=ZH.lined G HX.out kL zL sL ar ag hr aI aj.out;obtain ⟨x0,x1,x2,x3,x4,x5,-⟩:=zM pL;obtain ⟨y0,y1,y2,y3,y4,y5,yf⟩:=zM nL;obtain ⟨z0,z1,z2,z3,z4,z5,-⟩:=zM (Zu nL (.int .i64 Q) (.string L) (.slice H V U) (.slice N I J) (.slice O T W) (.int .i64 (G:Int)));have af:Hid (wS=(((((((((((w6.setCell ⟨P,0,none⟩ (.int .i64 Q))).setCell ⟨P,1,none⟩ (.string L))).setCell ⟨P,2,none⟩ (.slice H V U))).setCell ⟨P,3,none⟩ (.slice N I J))).setCell ⟨P,4,none⟩ (.slice O T W))).setCell ⟨P,5,none⟩ (.int .i64 qc))):=A;have ax:=z.symm;clear hx ah ai A z pS sS kS zS sf pL sL kL zL nL HX aj
      go_upto_region 13 with fail
      rw [←af.out];clear af m0 m1 m2 m3 m4 m5 mf;go_wp2
      exact bodyPost_ret (v:=.agg #[.int .i64 Q,.string L,.slice H V U,.slice N I J,.slice O T W,.int .i64 (G:Int)]) (by simp [results,Tryz.results136,go_sem,z0,z1,z2,z3,z4,z5]) rfl HP.out
end Go.Proofs.YtpejpbbdgblbeaaGreatDoor
