import Derived.Test.YtpejpbbdgblbeaaGreatDoorSSetOrDo
import Derived.Test.YtpejpbbdgblbeaaGreatDoorMC22
namespace Go.Proofs.YtpejpbbdgblbeaaGreatDoor
open Go.RowKit Go.Shelf
set_option maxHeartbeats 16000000
set_option maxRecDepth 100000
theorem ZH.lined {r g o cap P B:Nat} {w w3 w5:World} {x:St} {us:List Tk} {a:Int} {b:ByteArray} {ve vb vl:Value} {c:Int} (line:Nat) (hx:yv (fun k=>B≤k) w3 x (.agg #[.int .i64 a,.string b,ve,vb,vl,.int .i64 c])) (hK5:zd r w w5) (hsz:w5.heap.size=w3.heap.size) (hsame:∀k,k≠P→w5.heap[k]?=w3.heap[k]?)
  (hPB:P<B) (hNP:w.heap.size<P) (hr:r<w.heap.size) (hg:g<w.heap.size) (hrd:zg r g o cap us w3) :
  ZH r g w (.ok (x.at line,us)) (.returned (.agg #[.int .i64 a,.string b,ve,vb,vl,.int .i64 line])) (XB w5 w.heap.size (.int .i64 a) (.string b) ve vb vl (.int .i64 line)):=by
 cases hx with
 | mk k s es body els l0 _ _ _ gb cb gl cl ub ul he hb hbk hl hlk =>
  have y:w3.heap.size≤w5.heap.size:=by omega
  have h:∀j,B≤j→j<w3.heap.size→w5.heap[j]?=w3.heap[j]?:=fun j hj _=>hsame j (by omega)
  exact ZH.of_set6 (B:=B) k s line hK5 (Nat.le_refl _) hr hg (he.kept y h) (z8.kept (l:=body) (v:=vb) ⟨gb,cb,ub,hb,hbk⟩ y h) (z8.kept (l:=els) (v:=vl) ⟨gl,cl,ul,hl,hlk⟩ y h) (by omega) (hrd.keep (hsame r (by omega)) (hsame g (by omega)))
structure SB (r:Nat) (w:World) (P:Nat) (W:World):Prop where
 k:zd r w W
 n:W.heap[w.heap.size]?=some xw
 p:W.heap[P]?=some xw
theorem SB.next {r P:Nat} {w W W':World} (h:SB r w P W) (hk:zd r W W') (hr:r<w.heap.size) (hP:w.heap.size<P):SB r w P W' :=
 ⟨h.k.trans hk,(hk.block _ (Array.getElem?_eq_some_iff.1 h.n).1 (by omega)).trans h.n,(hk.block _ (Array.getElem?_eq_some_iff.1 h.p).1 (by omega)).trans h.p⟩
theorem SB.lt {r P:Nat} {w W:World} (h:SB r w P W):P<W.heap.size:=(Array.getElem?_eq_some_iff.1 h.p).1
theorem zgI {f line:Nat} {t1 t2:Tk} {us:List Tk} {R:PR St} (h:(zh (Z3 (t1::t2::us)) fun s us=>zh (zR [61] us) fun _ us=>zh (zf f 1 us) fun e us=>zh (zR [59] us) fun _ us=>some (.ok (.mk 1 s [e] [] [] line,us)))=some R) :
  ∃res,R=atL line (QO t1 t2 res)∧(t1.k=1→zm t2 [61]=true→zf f 1 us=some res):=by
 unfold Z3 zR at h
 simp only [zE,List.tail_cons] at h
 unfold QO
 by_cases h1:t1.k=1
 ·simp only [if_pos h1,zh,zE,List.tail_cons] at h
  by_cases h2:zm t2 [61]=true
  ·simp only [if_pos h2] at h
   cases h3:zf f 1 us with
   | none=>rw [h3] at h;cases h
   | some r3 =>
    rw [h3] at h;refine ⟨r3,?_,fun _ _=>rfl⟩
    rw [if_pos h1,if_pos h2];rcases r3 with a | ⟨e,o⟩
    ·simp only [Option.some.injEq] at h
     rw [←h];rfl
    ·simp only at h ⊢
     by_cases h4:zm (zv o) [59]=true
     ·simp only [if_pos h4,Option.some.injEq] at h ⊢
      rw [←h];rfl
     ·simp only [if_neg h4,Option.some.injEq] at h ⊢
      rw [←h];rfl
  ·simp only [if_neg h2,Option.some.injEq] at h
   refine ⟨.error 0,?_,fun _ h9=>absurd h9 h2⟩
   rw [if_pos h1,if_neg h2,←h];rfl
 ·simp only [if_neg h1,zh,Option.some.injEq] at h
  refine ⟨.error 0,?_,fun h9=>absurd h9 h1⟩
  rw [if_neg h1,←h];rfl
theorem zb6 {f line:Nat} {t1:Tk} {us:List Tk} {R:PR St} (h:(if zm t1 [59]=true then some (.ok (.mk 6 [] [] [] [] line,us)) else zh (zf f 1 (t1::us)) fun e us=>zh (zR [59] us) fun _ us=>some (.ok (.mk 6 [] [e] [] [] line,us)))=some R) :
  ∃res,R=atL line (xf t1 us res)∧(zm t1 [59]=false→zf f 1 (t1::us)=some res):=by
 unfold zR at h
 unfold xf
 by_cases h1:zm t1 [59]=true
 ·simp only [if_pos h1,Option.some.injEq] at h
  refine ⟨.error 0,?_,fun h9=>by rw [h1] at h9;cases h9⟩
  rw [if_pos h1,←h];rfl
 ·simp only [if_neg h1] at h
  cases h3:zf f 1 (t1::us) with
  | none=>rw [h3] at h;cases h
  | some r3 =>
   rw [h3] at h;refine ⟨r3,?_,fun _=>rfl⟩
   rw [if_neg h1];rcases r3 with a | ⟨e,o⟩
   ·simp only [zh,Option.some.injEq] at h
    rw [←h];rfl
   ·simp only [zh] at h ⊢
    by_cases h4:zm (zv o) [59]=true
    ·simp only [if_pos h4,Option.some.injEq] at h ⊢
     rw [←h];rfl
    ·simp only [if_neg h4,Option.some.injEq] at h ⊢
     rw [←h];rfl
theorem zfc (r g o cap:Nat) (t:Tk) (w:World) (h:zg r g o cap [t] w) (hk:t.k≠1):Calls Tryz.prog 166 #[.pointer (some ⟨r,0,none⟩)] w (ZH r g w (.error t.at0)):=by
 obtain ⟨w0,y⟩:∃w0,w0=w.alloc xw:=⟨_,rfl⟩;have G:zg r g o cap [t] w0:=by rw [y];exact h.alloc _
 have H:zd r w w0:=by rw [y];exact (zd.refl r w).alloc _
 have D:=xu r g o cap t [] w0 G (fun h=>absurd h hk)
 have z:Hid (w0=w.alloc xw):=y;clear h G y;simp only [if_neg hk] at D
 go_enter Tryz.func166,Tryz.ntmps166
 go_wp2_with fail
 rw [←z.out];refine D.mono ?_;clear D;rintro e I ⟨A,rfl⟩;exact ⟨rfl,H.trans A,rfl⟩
theorem za0 (r g o cap F:Nat) (ts:List Tk) (w:World) (R:PR St) (h:zg r g o cap ts w) (hE:zi ts) (hp:Ze (F+1) ts=some R)
  (hex:∀w1 o1 cap1 ts1 r1,zf F 1 ts1=some r1→zi ts1→zg r g o1 cap1 ts1 w1→zd r w w1→Calls Tryz.prog 44 #[.pointer (some ⟨r,0,none⟩)] w1 (zJ r g w1 r1))
  (hbl:∀w1 o1 cap1 ts1 r1,zH F ts1=some r1→zi ts1→zg r g o1 cap1 ts1 w1→zd r w w1→Calls Tryz.prog 100 #[.pointer (some ⟨r,0,none⟩)] w1 (X5 r g w1 r1)) :
  Calls Tryz.prog 136 #[.pointer (some ⟨r,0,none⟩)] w (ZH r g w R):=by
 obtain ⟨t0,Y,rfl⟩:=hE.cons;have hr:=h.lt.1;have aD:=h.lt.2;have hf:=Xv;obtain ⟨w0,ar⟩:∃w0,w0=w.alloc xw:=⟨_,rfl⟩;have h0:zg r g o cap (t0::Y) w0:=by rw [ar];exact h.alloc _
 have ch:=yh r g o cap t0 Y w0 h0;obtain ⟨P,hP⟩:∃P,P=w.heap.size+2:=⟨_,rfl⟩;obtain ⟨w1,aA⟩:∃w1,w1=(w0.alloc (ZK t0)).alloc xw:=⟨_,rfl⟩;have h1:zg r g o cap (t0::Y) w1:=by rw [aA];exact (h0.alloc _).alloc _
 have bc:SB r w P w1:=by
  have be:w0.heap.size=w.heap.size+1:=by rw [ar];simp
  refine ⟨by rw [aA,ar];exact (((zd.refl r w).alloc _).alloc _).alloc _,?_,?_⟩
  ·rw [aA,Below.heap_alloc _ _ _ (by simp;omega),Below.heap_alloc _ _ _ (by omega),ar];exact World.alloc_heap_new _ _
  ·have:=World.alloc_heap_new (w0.alloc (ZK t0)) xw
   rw [aA,hP];rw [show (w0.alloc (ZK t0)).heap.size=w.heap.size+2 by simp [be]] at this
   exact this
 have aV:Hid (SB r w P w1):=bc;have a8:Hid (w0=w.alloc xw):=ar;have a4:Hid (w1=(w0.alloc (ZK t0)).alloc xw):=aA;have aa:Hid (w.heap.size<P):=show _<_ by omega
 have a9:Hid (w0.heap.size+1=P):=by show _=_;rw [ar,hP];simp
 have aE:Hid (∀w1 o1 cap1 ts1 r1,zf F 1 ts1=some r1→zi ts1→zg r g o1 cap1 ts1 w1→zd r w w1→Calls Tryz.prog 44 #[.pointer (some ⟨r,0,none⟩)] w1 (zJ r g w1 r1)):=hex;have a6:Hid (∀w1 o1 cap1 ts1 r1,zH F ts1=some r1→zi ts1→zg r g o1 cap1 ts1 w1→zd r w w1→Calls Tryz.prog 100 #[.pointer (some ⟨r,0,none⟩)] w1 (X5 r g w1 r1)):=hbl;rw [Ze] at hp;simp only [zE,List.tail_cons] at hp;have c1:=Zx r g o cap t0 Y [108,101,116] w1 h1 (fun hi=>(hE.tail (zj hi)).ne)
 obtain ⟨G,a0⟩:∃G,G=t0.line:=⟨_,rfl⟩;have bf:Hid (G=t0.line):=a0;rw [←a0] at hp;clear h h0 h1 ar aA hP bc hex hbl a0
 go_enter Tryz.func136,Tryz.ntmps136
 go_wp2_with fail
 rw [←a8.out];refine ch.mono ?_;clear ch;rintro e w' ⟨rfl,he⟩;subst he;simp only [uA];rw [←bf.out]
 go_upto_region 4 with fail
 rw [←a4.out];rw [a9.out];clear a8 a4 a9 hf
 by_cases i1:zm t0 [108,101,116]=true
 ·rw [i1] at c1
  rw [if_pos i1] at hp;have D:=hE.tail (zj i1);go_wp2_with fail
  refine c1.mono ?_;clear c1;rintro e w2 ⟨rfl,aH,h2⟩;have aq:zg r g (o+5) (cap-1) Y w2:=by simpa using h2
  have al:Hid (SB r w P w2):=aV.out.next aH hr aa.out
  have cl:∃R0,R=atL G R0∧Calls Tryz.prog 166 #[.pointer (some ⟨r,0,none⟩)] w2 (ZH r g w2 R0):=by
   obtain ⟨t1,an,rfl⟩:=D.cons;cases an with
   | nil =>
    have bv:t1.k=0:=D;refine ⟨.error t1.at0,?_,zfc r g _ _ t1 w2 aq (by omega)⟩
    simp only [Z3,zE,zh,if_neg (show ¬ t1.k=1 by omega),Option.some.injEq] at hp
    rw [←hp];rfl
   | cons t2 us2 =>
    obtain ⟨res,hR,aF⟩:=zgI hp;refine ⟨QO t1 t2 res,hR,?_⟩
    by_cases hc:t1.k=1∧zm t2 [61]=true
    ·have hb:=aF hc.1 hc.2
     have a1:zi us2:=(D.tail (by omega)).tail (zj hc.2)
     exact zhp r g _ _ t1 t2 us2 w2 res aq D (fun l us e=>by subst e;exact (Zi F).1 _ _ _ _ hb a1) fun _ _ w3 o3 aC hR3 hK3=>aE.out w3 o3 aC us2 res hb a1 hR3 (al.out.k.trans hK3)
    ·have e9:QO t1 t2 res=QO t1 t2 (.error 0):=by
      unfold QO
      by_cases h1:t1.k=1
      ·rw [if_pos h1,if_pos h1,if_neg (fun h9=>hc ⟨h1,h9⟩),if_neg (fun h9=>hc ⟨h1,h9⟩)]
      ·rw [if_neg h1,if_neg h1]
     rw [e9];exact zhp r g _ _ t1 t2 us2 w2 (.error 0) aq D (fun l us e=>by cases e) fun h1 h9=>absurd ⟨h1,h9⟩ hc
  obtain ⟨R0,rfl,cl⟩:=cl;clear aH h2 aq hp D;go_wp2_with fail
  refine cl.mono ?_;clear cl;rintro e w3 ⟨am,y⟩;have Z:Hid (SB r w P w3):=al.out.next am hr aa.out;rcases R0 with a | ⟨x,us⟩
  ·obtain rfl:=y
   exact ⟨rfl,Z.out.k,rfl⟩
  ·obtain ⟨v,o3,aC,rfl,hx,aS⟩:=y
   obtain ⟨O,Q,T,I,V,J,W,L,U,N,H,qc,rfl⟩:=hx.agg;have HX:Hid (yv (fun k=>w2.heap.size≤k) w3 x (.agg #[.int .i64 O,.string Q,.slice T I V,.slice J W L,.slice U N H,.int .i64 qc])):=hx
   have aj:Hid (zg r g o3 aC us w3):=aS;have ap:=al.out.lt;have ag:=aa.out;obtain ⟨m0,m1,m2,m3,m4,m5,mf⟩:=zM Z.out.p;obtain ⟨wS,z⟩:∃wS,wS=(((((((((((w3.setCell ⟨P,0,none⟩ (.int .i64 O))).setCell ⟨P,1,none⟩ (.string Q))).setCell ⟨P,2,none⟩ (.slice T I V))).setCell ⟨P,3,none⟩ (.slice J W L))).setCell ⟨P,4,none⟩ (.slice U N H))).setCell ⟨P,5,none⟩ (.int .i64 qc)):=⟨_,rfl⟩;have pS:wS.heap[P]?=some (XC O Q (.slice T I V) (.slice J W L) (.slice U N H) qc):=by rw [z];exact Zu Z.out.p (.int .i64 O) (.string Q) (.slice T I V) (.slice J W L) (.slice U N H) (.int .i64 qc)
   have sS:∀k,k≠P→wS.heap[k]?=w3.heap[k]?:=fun k hk=>by rw [z];exact Yp w3 P (.int .i64 O) (.string Q) (.slice T I V) (.slice J W L) (.slice U N H) (.int .i64 qc) hk
   have kS:zd r w wS:=by rw [z];exact xm Z.out.k (Nat.le_of_lt ag) _ _ _ _ _ _
   have zS:wS.heap.size=w3.heap.size:=by rw [z];simp
   obtain ⟨-,-,-,-,-,s5,sf⟩:=zM pS;have aN:=sf 5;obtain ⟨wL,A⟩:∃wL,wL=wS.setCell ⟨P,5,none⟩ (.int .i64 (G:Int)):=⟨_,rfl⟩;have pL:wL.heap[P]?=some (XC O Q (.slice T I V) (.slice J W L) (.slice U N H) (G:Int)):=by rw [A];exact zq _ pS
   have sL:∀k,k≠P→wL.heap[k]?=w3.heap[k]?:=fun k hk=>by rw [A,Below.heap_setCell _ _ _ _ (by simpa using hk)];exact sS k hk
   have kL:zd r w wL:=by rw [A];exact kS.setOther (by simp;omega) _
   have zL:wL.heap.size=w3.heap.size:=by rw [A];simpa using zS
   have nL:wL.heap[w.heap.size]?=some xw:=(sL _ (by omega)).trans Z.out.n
   have HP:Hid (ZH r g w (.ok (x.at G,us)) (.returned (.agg #[.int .i64 O,.string Q,.slice T I V,.slice J W L,.slice U N H,.int .i64 (G:Int)])) (XB wL w.heap.size (.int .i64 O) (.string Q) (.slice T I V) (.slice J W L) (.slice U N H) (.int .i64 (G:Int)))):=ZH.lined G HX.out kL zL sL ap ag hr aD aj.out;obtain ⟨x0,x1,x2,x3,x4,x5,-⟩:=zM pL;obtain ⟨y0,y1,y2,y3,y4,y5,yf⟩:=zM nL;obtain ⟨z0,z1,z2,z3,z4,z5,-⟩:=zM (Zu nL (.int .i64 O) (.string Q) (.slice T I V) (.slice J W L) (.slice U N H) (.int .i64 (G:Int)));have af:Hid (wS=(((((((((((w3.setCell ⟨P,0,none⟩ (.int .i64 O))).setCell ⟨P,1,none⟩ (.string Q))).setCell ⟨P,2,none⟩ (.slice T I V))).setCell ⟨P,3,none⟩ (.slice J W L))).setCell ⟨P,4,none⟩ (.slice U N H))).setCell ⟨P,5,none⟩ (.int .i64 qc))):=z;have aw:=A.symm;clear hx aS am z A pS sS kS zS sf pL sL kL zL nL HX aj
   go_upto_region 13 with fail
   rw [←af.out];clear af m0 m1 m2 m3 m4 m5 mf;go_wp2
   exact bodyPost_ret (v:=.agg #[.int .i64 O,.string Q,.slice T I V,.slice J W L,.slice U N H,.int .i64 (G:Int)]) (by simp [results,Tryz.results136,go_sem,z0,z1,z2,z3,z4,z5]) rfl HP.out
 ·have bk:zm t0 [108,101,116]=false:=by simpa using i1
  rw [bk] at c1;rw [if_neg i1] at hp;go_wp2_with fail
  refine c1.mono ?_;clear c1;rintro e w2 ⟨rfl,aH,h2⟩;have aq:zg r g o cap (t0::Y) w2:=by simpa using h2
  have al:Hid (SB r w P w2):=aV.out.next aH hr aa.out;have c2:=Zx r g o cap t0 Y [105,102] w2 aq (fun hi=>(hE.tail (zj hi)).ne)
  clear aH h2 aq
  by_cases i2:zm t0 [105,102]=true
  ·rw [i2] at c2
   rw [if_pos i2] at hp;have D:=hE.tail (zj i2);go_wp2_with fail
   refine c2.mono ?_;clear c2;rintro e w3 ⟨rfl,am,h3⟩;have aM:zg r g (o+5) (cap-1) Y w3:=by simpa using h3
   have Z:Hid (SB r w P w3):=al.out.next am hr aa.out
   have cl:∃R0,R=atL G R0∧Calls Tryz.prog 167 #[.pointer (some ⟨r,0,none⟩)] w3 (ZH r g w3 R0):=by
    obtain ⟨R0,h9,h8⟩:=zbY F Y G hp;exact ⟨R0,h8.symm,ze3 r g _ _ F Y w3 R0 aM D h9 (fun w1 o1 cap1 ts1 r1 hb D hR hK=>aE.out w1 o1 cap1 ts1 r1 hb D hR (Z.out.k.trans hK)) (fun w1 o1 cap1 ts1 r1 hb D hR hK=>a6.out w1 o1 cap1 ts1 r1 hb D hR (Z.out.k.trans hK))⟩
   obtain ⟨R0,rfl,cl⟩:=cl;clear am h3 aM hp D;go_wp2_with fail
   refine cl.mono ?_;clear cl;rintro e w4 ⟨ao,y⟩;have ab:Hid (SB r w P w4):=Z.out.next ao hr aa.out;rcases R0 with a | ⟨x,us⟩
   ·obtain rfl:=y
    exact ⟨rfl,ab.out.k,rfl⟩
   ·obtain ⟨v,o4,a3,rfl,hx,aQ⟩:=y
    obtain ⟨O,Q,T,I,V,J,W,L,U,N,H,qc,rfl⟩:=hx.agg;have HX:Hid (yv (fun k=>w3.heap.size≤k) w4 x (.agg #[.int .i64 O,.string Q,.slice T I V,.slice J W L,.slice U N H,.int .i64 qc])):=hx
    have aj:Hid (zg r g o4 a3 us w4):=aQ;have ap:=Z.out.lt;have ag:=aa.out;obtain ⟨m0,m1,m2,m3,m4,m5,mf⟩:=zM ab.out.p;obtain ⟨wS,z⟩:∃wS,wS=(((((((((((w4.setCell ⟨P,0,none⟩ (.int .i64 O))).setCell ⟨P,1,none⟩ (.string Q))).setCell ⟨P,2,none⟩ (.slice T I V))).setCell ⟨P,3,none⟩ (.slice J W L))).setCell ⟨P,4,none⟩ (.slice U N H))).setCell ⟨P,5,none⟩ (.int .i64 qc)):=⟨_,rfl⟩;have pS:wS.heap[P]?=some (XC O Q (.slice T I V) (.slice J W L) (.slice U N H) qc):=by rw [z];exact Zu ab.out.p (.int .i64 O) (.string Q) (.slice T I V) (.slice J W L) (.slice U N H) (.int .i64 qc)
    have sS:∀k,k≠P→wS.heap[k]?=w4.heap[k]?:=fun k hk=>by rw [z];exact Yp w4 P (.int .i64 O) (.string Q) (.slice T I V) (.slice J W L) (.slice U N H) (.int .i64 qc) hk
    have kS:zd r w wS:=by rw [z];exact xm ab.out.k (Nat.le_of_lt ag) _ _ _ _ _ _
    have zS:wS.heap.size=w4.heap.size:=by rw [z];simp
    obtain ⟨-,-,-,-,-,s5,sf⟩:=zM pS;have aN:=sf 5;obtain ⟨wL,A⟩:∃wL,wL=wS.setCell ⟨P,5,none⟩ (.int .i64 (G:Int)):=⟨_,rfl⟩;have pL:wL.heap[P]?=some (XC O Q (.slice T I V) (.slice J W L) (.slice U N H) (G:Int)):=by rw [A];exact zq _ pS
    have sL:∀k,k≠P→wL.heap[k]?=w4.heap[k]?:=fun k hk=>by rw [A,Below.heap_setCell _ _ _ _ (by simpa using hk)];exact sS k hk
    have kL:zd r w wL:=by rw [A];exact kS.setOther (by simp;omega) _
    have zL:wL.heap.size=w4.heap.size:=by rw [A];simpa using zS
    have nL:wL.heap[w.heap.size]?=some xw:=(sL _ (by omega)).trans ab.out.n
    have HP:Hid (ZH r g w (.ok (x.at G,us)) (.returned (.agg #[.int .i64 O,.string Q,.slice T I V,.slice J W L,.slice U N H,.int .i64 (G:Int)])) (XB wL w.heap.size (.int .i64 O) (.string Q) (.slice T I V) (.slice J W L) (.slice U N H) (.int .i64 (G:Int)))):=ZH.lined G HX.out kL zL sL ap ag hr aD aj.out;obtain ⟨x0,x1,x2,x3,x4,x5,-⟩:=zM pL;obtain ⟨y0,y1,y2,y3,y4,y5,yf⟩:=zM nL;obtain ⟨z0,z1,z2,z3,z4,z5,-⟩:=zM (Zu nL (.int .i64 O) (.string Q) (.slice T I V) (.slice J W L) (.slice U N H) (.int .i64 (G:Int)));have af:Hid (wS=(((((((((((w4.setCell ⟨P,0,none⟩ (.int .i64 O))).setCell ⟨P,1,none⟩ (.string Q))).setCell ⟨P,2,none⟩ (.slice T I V))).setCell ⟨P,3,none⟩ (.slice J W L))).setCell ⟨P,4,none⟩ (.slice U N H))).setCell ⟨P,5,none⟩ (.int .i64 qc))):=z;have aw:=A.symm;clear hx aQ ao z A pS sS kS zS sf pL sL kL zL nL HX aj
    go_upto_region 13 with fail
    rw [←af.out];clear af m0 m1 m2 m3 m4 m5 mf;go_wp2
    exact bodyPost_ret (v:=.agg #[.int .i64 O,.string Q,.slice T I V,.slice J W L,.slice U N H,.int .i64 (G:Int)]) (by simp [results,Tryz.results136,go_sem,z0,z1,z2,z3,z4,z5]) rfl HP.out
  ·have bh:zm t0 [105,102]=false:=by simpa using i2
   rw [bh] at c2;rw [if_neg i2] at hp;go_wp2_with fail
   refine c2.mono ?_;clear c2;rintro e w3 ⟨rfl,am,h3⟩;have aM:zg r g o cap (t0::Y) w3:=by simpa using h3
   have Z:Hid (SB r w P w3):=al.out.next am hr aa.out;have c3:=Zx r g o cap t0 Y [119,104,105,108,101] w3 aM (fun hi=>(hE.tail (zj hi)).ne)
   clear am h3 aM
   by_cases i3:zm t0 [119,104,105,108,101]=true
   ·rw [i3] at c3
    rw [if_pos i3] at hp;have D:=hE.tail (zj i3);go_wp2_with fail
    refine c3.mono ?_;clear c3;rintro e w4 ⟨rfl,ao,h4⟩;have aI:zg r g (o+5) (cap-1) Y w4:=by simpa using h4
    have ab:Hid (SB r w P w4):=Z.out.next ao hr aa.out;cases hb1:zf F 1 Y with
    | none=>rw [hb1] at hp;cases hp
    | some r1 =>
     rw [hb1] at hp;have ce:=aE.out w4 _ _ Y r1 hb1 D aI ab.out.k;clear h4 aI ao;go_wp2_with fail
     refine ce.mono ?_;clear ce;rintro e w5 ⟨ak,y⟩;have ae:Hid (SB r w P w5):=ab.out.next ak hr aa.out;rcases r1 with a | ⟨x,us⟩
     ·obtain rfl:=y
      simp only [zh,Option.some.injEq] at hp;subst hp;exact ⟨rfl,ae.out.k,rfl⟩
     ·obtain ⟨v,o5,aB,rfl,hx,aU⟩:=y
      obtain ⟨xa,xb,xc,x0,x1,x2,xl,rfl⟩:=hx.agg;have bb:=(Zi F).1 _ _ _ _ hb1 D;simp only [zh] at hp;cases hb2:zH F us with
      | none=>rw [hb2] at hp;cases hp
      | some r2 =>
       rw [hb2] at hp;obtain ⟨wA,au⟩:∃wA,wA=w5.alloc (exO xa xb xc (.slice x0 x1 x2) xl):=⟨_,rfl⟩;have ax:Hid (SB r w P wA):=by rw [au];exact ae.out.next ((zd.refl r w5).alloc _) hr aa.out
       have a2:=ae.out.lt;have aG:=zK.one (S:=fun k=>w4.heap.size≤k) 45 (c:=[.int .i64 xa,.string xb,.int .i64 xc,.slice x0 x1 x2,.int .i64 xl]) hx rfl ak.size
       have bj:wA.heap.size=w5.heap.size+1:=by rw [au];simp
       have aR:=ab.out.lt;have ag:=aa.out;obtain ⟨t2,us2,rfl⟩:=bb.cons;have aT:zg r g o5 aB (t2::us2) wA:=by rw [au];exact aU.alloc _
       obtain ⟨m0,m1,m2,m3,m4,m5,mf⟩:=zM ax.out.p;obtain ⟨wS,z⟩:∃wS,wS=(((((((((((wA.setCell ⟨P,0,none⟩ (.int .i64 5))).setCell ⟨P,1,none⟩ (.string ⟨#[]⟩))).setCell ⟨P,2,none⟩ (.slice (some ⟨w5.heap.size,0,none⟩) 1 1))).setCell ⟨P,3,none⟩ (.slice none 0 0))).setCell ⟨P,4,none⟩ (.slice none 0 0))).setCell ⟨P,5,none⟩ (.int .i64 0)):=⟨_,rfl⟩;have pS:wS.heap[P]?=some (XC 5 ⟨#[]⟩ (.slice (some ⟨w5.heap.size,0,none⟩) 1 1) (.slice none 0 0) (.slice none 0 0) 0):=by rw [z];exact Zu ax.out.p (.int .i64 5) (.string ⟨#[]⟩) (.slice (some ⟨w5.heap.size,0,none⟩) 1 1) (.slice none 0 0) (.slice none 0 0) (.int .i64 0)
       have sS:∀k,k≠P→wS.heap[k]?=wA.heap[k]?:=fun k hk=>by rw [z];exact Yp wA P (.int .i64 5) (.string ⟨#[]⟩) (.slice (some ⟨w5.heap.size,0,none⟩) 1 1) (.slice none 0 0) (.slice none 0 0) (.int .i64 0) hk
       have kS:zd r w wS:=by rw [z];exact xm ax.out.k (Nat.le_of_lt ag) _ _ _ _ _ _
       have zS:wS.heap.size=wA.heap.size:=by rw [z];simp
       have aO:zg r g o5 aB (t2::us2) wS:=aT.keep (sS r (by omega)) (sS g (by omega))
       have aJ:zK (fun k=>w4.heap.size≤k) wS [x] (.slice (some ⟨w5.heap.size,0,none⟩) 1 1):=by
        have h9:zK (fun k=>w4.heap.size≤k) wA [x] (.slice (some ⟨w5.heap.size,0,none⟩) 1 1):=by rw [au];exact aG
        exact h9.kept (by omega) fun k hk _=>sS k (by omega)
       have cb:=a6.out wS o5 aB (t2::us2) r2 hb2 bb aO kS;have bn:Hid (wA=w5.alloc (exO xa xb xc (.slice x0 x1 x2) xl)):=au;have af:Hid (wS=(((((((((((wA.setCell ⟨P,0,none⟩ (.int .i64 5))).setCell ⟨P,1,none⟩ (.string ⟨#[]⟩))).setCell ⟨P,2,none⟩ (.slice (some ⟨w5.heap.size,0,none⟩) 1 1))).setCell ⟨P,3,none⟩ (.slice none 0 0))).setCell ⟨P,4,none⟩ (.slice none 0 0))).setCell ⟨P,5,none⟩ (.int .i64 0))):=z;have aW:Hid (wS.heap[P]?=some (XC 5 ⟨#[]⟩ (.slice (some ⟨w5.heap.size,0,none⟩) 1 1) (.slice none 0 0) (.slice none 0 0) 0)):=pS;have aX:Hid (wS.heap[w.heap.size]?=some xw):=(sS _ (by omega)).trans ax.out.n
       have aY:Hid (zd r w wS):=kS;have aK:Hid (zK (fun k=>w4.heap.size≤k) wS [x] (.slice (some ⟨w5.heap.size,0,none⟩) 1 1)):=aJ
       have HZ:Hid (P<w4.heap.size∧w4.heap.size≤wS.heap.size):=⟨aR,by have:=ak.size;omega⟩
       have a7:=au.symm;clear hx aU aT aO aG aJ bj au z pS sS kS zS ak aR a2
       go_upto_region 10 with fail
       rw [←af.out];clear af m0 m1 m2 m3 m4 m5 mf a7;go_wp2_with fail
       refine cb.mono ?_;clear cb;rintro e w6 ⟨ai,y⟩;rcases r2 with a | ⟨bl,bg⟩
       ·obtain rfl:=y
        simp only [Option.some.injEq] at hp;subst hp;exact ⟨rfl,aY.out.trans ai,rfl⟩
       ·obtain ⟨vb,o6,av,rfl,aZ,ah⟩:=y
        simp only [Option.some.injEq] at hp;subst hp;obtain ⟨c0,c1,c2,rfl⟩:=aZ.slice;have hz:=HZ.out;have ba:P<wS.heap.size:=(Array.getElem?_eq_some_iff.1 aW.out).1;have a5:w.heap.size<wS.heap.size:=(Array.getElem?_eq_some_iff.1 aX.out).1;have p6:=(ai.block P ba (by omega)).trans aW.out
        have n6:=(ai.block w.heap.size a5 (by omega)).trans aX.out
        have k6:zd r w w6:=aY.out.trans ai;obtain ⟨-,-,-,g3,-,-,gf⟩:=zM p6;have bs:=gf 3;obtain ⟨wB,az⟩:∃wB,wB=w6.setCell ⟨P,3,none⟩ (.slice c0 c1 c2):=⟨_,rfl⟩;have pB:wB.heap[P]?=some (XC 5 ⟨#[]⟩ (.slice (some ⟨w5.heap.size,0,none⟩) 1 1) (.slice c0 c1 c2) (.slice none 0 0) 0):=by rw [az];exact zq _ p6
        have sB:∀k,k≠P→wB.heap[k]?=w6.heap[k]?:=fun k hk=>by rw [az];exact Below.heap_setCell _ _ _ _ (by simpa using hk)
        have kB:zd r w wB:=by rw [az];exact k6.setOther (by simp;omega) _
        have zB:wB.heap.size=w6.heap.size:=by rw [az];simp
        obtain ⟨-,-,-,-,-,s5,sf⟩:=zM pB;have aN:=sf 5;obtain ⟨wL,A⟩:∃wL,wL=wB.setCell ⟨P,5,none⟩ (.int .i64 (G:Int)):=⟨_,rfl⟩;have pL:wL.heap[P]?=some (XC 5 ⟨#[]⟩ (.slice (some ⟨w5.heap.size,0,none⟩) 1 1) (.slice c0 c1 c2) (.slice none 0 0) (G:Int)):=by rw [A];exact zq _ pB
        have sL:∀k,k≠P→wL.heap[k]?=w6.heap[k]?:=fun k hk=>by rw [A,Below.heap_setCell _ _ _ _ (by simpa using hk)];exact sB k hk
        have kL:zd r w wL:=by rw [A];exact kB.setOther (by simp;omega) _
        have zL:wL.heap.size=w6.heap.size:=by rw [A];simpa using zB
        have nL:wL.heap[w.heap.size]?=some xw:=(sL _ (by omega)).trans n6
        have aL:zK (fun k=>w4.heap.size≤k) wL [x] (.slice (some ⟨w5.heap.size,0,none⟩) 1 1):=(aK.out.keptR ai fun k hk=>by omega).kept (by omega) fun k hk _=>sL k (by omega)
        have aP:z8 (fun k=>w4.heap.size≤k) wL bl (.slice c0 c1 c2):=(aZ.kept (w':=wL) (by omega) fun k hk _=>sL k (by omega)).wide fun k hk=>by omega
        have HP:Hid (ZH r g w (.ok (.mk 5 [] [x] bl [] G,bg)) (.returned (.agg #[.int .i64 5,.string ⟨#[]⟩,.slice (some ⟨w5.heap.size,0,none⟩) 1 1,.slice c0 c1 c2,.slice none 0 0,.int .i64 (G:Int)])) (XB wL w.heap.size (.int .i64 5) (.string ⟨#[]⟩) (.slice (some ⟨w5.heap.size,0,none⟩) 1 1) (.slice c0 c1 c2) (.slice none 0 0) (.int .i64 (G:Int)))) :=
         ZH.of_set6 (B:=w4.heap.size) 5 [] G kL (Nat.le_refl _) hr aD aL aP (z8.nil _ _) (by omega) (ah.keep (sL r (by omega)) (sL g (by omega)))
        obtain ⟨br,bo,bu,bp,bq,bt,-⟩:=zM pL;obtain ⟨y0,y1,y2,y3,y4,y5,yf⟩:=zM nL;obtain ⟨z0,z1,z2,z3,z4,z5,-⟩:=zM (Zu nL (.int .i64 5) (.string ⟨#[]⟩) (.slice (some ⟨w5.heap.size,0,none⟩) 1 1) (.slice c0 c1 c2) (.slice none 0 0) (.int .i64 (G:Int)));have bm:=az.symm;have aw:=A.symm;clear az A pB sB kB zB sf gf pL sL kL zL nL aL aP p6 n6 k6 hz ba a5 aZ ah ai aW aX aY aK HZ;go_wp2
        exact bodyPost_ret (v:=.agg #[.int .i64 5,.string ⟨#[]⟩,.slice (some ⟨w5.heap.size,0,none⟩) 1 1,.slice c0 c1 c2,.slice none 0 0,.int .i64 (G:Int)]) (by simp [results,Tryz.results136,go_sem,z0,z1,z2,z3,z4,z5]) rfl HP.out
   ·have bi:zm t0 [119,104,105,108,101]=false:=by simpa using i3
    rw [bi] at c3;rw [if_neg i3] at hp;go_wp2_with fail
    refine c3.mono ?_;clear c3;rintro e w4 ⟨rfl,ao,h4⟩;have aI:zg r g o cap (t0::Y) w4:=by simpa using h4
    have ab:Hid (SB r w P w4):=Z.out.next ao hr aa.out;have c4:=Zx r g o cap t0 Y [114,101,116,117,114,110] w4 aI (fun hi=>(hE.tail (zj hi)).ne)
    clear ao h4 aI
    by_cases i4:zm t0 [114,101,116,117,114,110]=true
    ·rw [i4] at c4
     rw [if_pos i4] at hp;have D:=hE.tail (zj i4);go_wp2_with fail
     refine c4.mono ?_;clear c4;rintro e w5 ⟨rfl,ak,h5⟩;have ay:zg r g (o+5) (cap-1) Y w5:=by simpa using h5
     have ae:Hid (SB r w P w5):=ab.out.next ak hr aa.out
     have cl:∃R0,R=atL G R0∧Calls Tryz.prog 168 #[.pointer (some ⟨r,0,none⟩)] w5 (ZH r g w5 R0):=by
      obtain ⟨t1,an,rfl⟩:=D.cons;obtain ⟨res,hR,aF⟩:=zb6 hp;refine ⟨xf t1 an res,hR,?_⟩
      by_cases hc:zm t1 [59]=false
      ·have hb:=aF hc
       exact zaT r g _ _ t1 an w5 res ay D (fun l us e=>by subst e;exact (Zi F).1 _ _ _ _ hb D) fun _ w1 o1 cap1 hR1 hK1=>aE.out w1 o1 cap1 (t1::an) res hb D hR1 (ae.out.k.trans hK1)
      ·have e9:xf t1 an res=xf t1 an (.error 0):=by
        unfold xf
        rw [if_pos (by simpa using hc),if_pos (by simpa using hc)]
       rw [e9];exact zaT r g _ _ t1 an w5 (.error 0) ay D (fun l us e=>by cases e) fun h9=>absurd h9 hc
     obtain ⟨R0,rfl,cl⟩:=cl;clear ak h5 ay hp D;go_wp2_with fail
     refine cl.mono ?_;clear cl;rintro e w6 ⟨ai,y⟩;have ad:Hid (SB r w P w6):=ae.out.next ai hr aa.out;rcases R0 with a | ⟨x,us⟩
     ·obtain rfl:=y
      exact ⟨rfl,ad.out.k,rfl⟩
     ·obtain ⟨v,o6,av,rfl,hx,ah⟩:=y
      obtain ⟨O,Q,T,I,V,J,W,L,U,N,H,qc,rfl⟩:=hx.agg;have HX:Hid (yv (fun k=>w5.heap.size≤k) w6 x (.agg #[.int .i64 O,.string Q,.slice T I V,.slice J W L,.slice U N H,.int .i64 qc])):=hx
      have aj:Hid (zg r g o6 av us w6):=ah;have ap:=ae.out.lt;have ag:=aa.out;obtain ⟨m0,m1,m2,m3,m4,m5,mf⟩:=zM ad.out.p;obtain ⟨wS,z⟩:∃wS,wS=(((((((((((w6.setCell ⟨P,0,none⟩ (.int .i64 O))).setCell ⟨P,1,none⟩ (.string Q))).setCell ⟨P,2,none⟩ (.slice T I V))).setCell ⟨P,3,none⟩ (.slice J W L))).setCell ⟨P,4,none⟩ (.slice U N H))).setCell ⟨P,5,none⟩ (.int .i64 qc)):=⟨_,rfl⟩;have pS:wS.heap[P]?=some (XC O Q (.slice T I V) (.slice J W L) (.slice U N H) qc):=by rw [z];exact Zu ad.out.p (.int .i64 O) (.string Q) (.slice T I V) (.slice J W L) (.slice U N H) (.int .i64 qc)
      have sS:∀k,k≠P→wS.heap[k]?=w6.heap[k]?:=fun k hk=>by rw [z];exact Yp w6 P (.int .i64 O) (.string Q) (.slice T I V) (.slice J W L) (.slice U N H) (.int .i64 qc) hk
      have kS:zd r w wS:=by rw [z];exact xm ad.out.k (Nat.le_of_lt ag) _ _ _ _ _ _
      have zS:wS.heap.size=w6.heap.size:=by rw [z];simp
      obtain ⟨-,-,-,-,-,s5,sf⟩:=zM pS;have aN:=sf 5;obtain ⟨wL,A⟩:∃wL,wL=wS.setCell ⟨P,5,none⟩ (.int .i64 (G:Int)):=⟨_,rfl⟩;have pL:wL.heap[P]?=some (XC O Q (.slice T I V) (.slice J W L) (.slice U N H) (G:Int)):=by rw [A];exact zq _ pS
      have sL:∀k,k≠P→wL.heap[k]?=w6.heap[k]?:=fun k hk=>by rw [A,Below.heap_setCell _ _ _ _ (by simpa using hk)];exact sS k hk
      have kL:zd r w wL:=by rw [A];exact kS.setOther (by simp;omega) _
      have zL:wL.heap.size=w6.heap.size:=by rw [A];simpa using zS
      have nL:wL.heap[w.heap.size]?=some xw:=(sL _ (by omega)).trans ad.out.n
      have HP:Hid (ZH r g w (.ok (x.at G,us)) (.returned (.agg #[.int .i64 O,.string Q,.slice T I V,.slice J W L,.slice U N H,.int .i64 (G:Int)])) (XB wL w.heap.size (.int .i64 O) (.string Q) (.slice T I V) (.slice J W L) (.slice U N H) (.int .i64 (G:Int)))):=ZH.lined G HX.out kL zL sL ap ag hr aD aj.out;obtain ⟨x0,x1,x2,x3,x4,x5,-⟩:=zM pL;obtain ⟨y0,y1,y2,y3,y4,y5,yf⟩:=zM nL;obtain ⟨z0,z1,z2,z3,z4,z5,-⟩:=zM (Zu nL (.int .i64 O) (.string Q) (.slice T I V) (.slice J W L) (.slice U N H) (.int .i64 (G:Int)));have af:Hid (wS=(((((((((((w6.setCell ⟨P,0,none⟩ (.int .i64 O))).setCell ⟨P,1,none⟩ (.string Q))).setCell ⟨P,2,none⟩ (.slice T I V))).setCell ⟨P,3,none⟩ (.slice J W L))).setCell ⟨P,4,none⟩ (.slice U N H))).setCell ⟨P,5,none⟩ (.int .i64 qc))):=z;have aw:=A.symm;clear hx ah ai z A pS sS kS zS sf pL sL kL zL nL HX aj
      go_upto_region 13 with fail
      rw [←af.out];clear af m0 m1 m2 m3 m4 m5 mf;go_wp2
      exact bodyPost_ret (v:=.agg #[.int .i64 O,.string Q,.slice T I V,.slice J W L,.slice U N H,.int .i64 (G:Int)]) (by simp [results,Tryz.results136,go_sem,z0,z1,z2,z3,z4,z5]) rfl HP.out
    ·have bd:zm t0 [114,101,116,117,114,110]=false:=by simpa using i4
     rw [bd] at c4;rw [if_neg i4] at hp;go_wp2_with fail
     refine c4.mono ?_;clear c4;rintro e w5 ⟨rfl,ak,h5⟩;have ay:zg r g o cap (t0::Y) w5:=by simpa using h5
     have ae:Hid (SB r w P w5):=ab.out.next ak hr aa.out
     have cl:∃R0,R=atL G R0∧Calls Tryz.prog 169 #[.pointer (some ⟨r,0,none⟩)] w5 (ZH r g w5 R0):=by
      obtain ⟨R0,h9,h8⟩:=zgv F (t0::Y) G hp;exact ⟨R0,h8.symm,zdO r g _ _ F (t0::Y) w5 R0 ay hE h9 (fun w1 o1 cap1 ts1 r1 hb D hR hK=>aE.out w1 o1 cap1 ts1 r1 hb D hR (ae.out.k.trans hK))⟩
     obtain ⟨R0,rfl,cl⟩:=cl;clear ak h5 ay hp;go_wp2_with fail
     refine cl.mono ?_;clear cl;rintro e w6 ⟨ai,y⟩;have ad:Hid (SB r w P w6):=ae.out.next ai hr aa.out;rcases R0 with a | ⟨x,us⟩
     ·obtain rfl:=y
      exact ⟨rfl,ad.out.k,rfl⟩
     ·obtain ⟨v,o6,av,rfl,hx,ah⟩:=y
      obtain ⟨O,Q,T,I,V,J,W,L,U,N,H,qc,rfl⟩:=hx.agg;have HX:Hid (yv (fun k=>w5.heap.size≤k) w6 x (.agg #[.int .i64 O,.string Q,.slice T I V,.slice J W L,.slice U N H,.int .i64 qc])):=hx
      have aj:Hid (zg r g o6 av us w6):=ah;have ap:=ae.out.lt;have ag:=aa.out;obtain ⟨m0,m1,m2,m3,m4,m5,mf⟩:=zM ad.out.p;obtain ⟨wS,z⟩:∃wS,wS=(((((((((((w6.setCell ⟨P,0,none⟩ (.int .i64 O))).setCell ⟨P,1,none⟩ (.string Q))).setCell ⟨P,2,none⟩ (.slice T I V))).setCell ⟨P,3,none⟩ (.slice J W L))).setCell ⟨P,4,none⟩ (.slice U N H))).setCell ⟨P,5,none⟩ (.int .i64 qc)):=⟨_,rfl⟩;have pS:wS.heap[P]?=some (XC O Q (.slice T I V) (.slice J W L) (.slice U N H) qc):=by rw [z];exact Zu ad.out.p (.int .i64 O) (.string Q) (.slice T I V) (.slice J W L) (.slice U N H) (.int .i64 qc)
      have sS:∀k,k≠P→wS.heap[k]?=w6.heap[k]?:=fun k hk=>by rw [z];exact Yp w6 P (.int .i64 O) (.string Q) (.slice T I V) (.slice J W L) (.slice U N H) (.int .i64 qc) hk
      have kS:zd r w wS:=by rw [z];exact xm ad.out.k (Nat.le_of_lt ag) _ _ _ _ _ _
      have zS:wS.heap.size=w6.heap.size:=by rw [z];simp
      obtain ⟨-,-,-,-,-,s5,sf⟩:=zM pS;have aN:=sf 5;obtain ⟨wL,A⟩:∃wL,wL=wS.setCell ⟨P,5,none⟩ (.int .i64 (G:Int)):=⟨_,rfl⟩;have pL:wL.heap[P]?=some (XC O Q (.slice T I V) (.slice J W L) (.slice U N H) (G:Int)):=by rw [A];exact zq _ pS
      have sL:∀k,k≠P→wL.heap[k]?=w6.heap[k]?:=fun k hk=>by rw [A,Below.heap_setCell _ _ _ _ (by simpa using hk)];exact sS k hk
      have kL:zd r w wL:=by rw [A];exact kS.setOther (by simp;omega) _
      have zL:wL.heap.size=w6.heap.size:=by rw [A];simpa using zS
      have nL:wL.heap[w.heap.size]?=some xw:=(sL _ (by omega)).trans ad.out.n
      have HP:Hid (ZH r g w (.ok (x.at G,us)) (.returned (.agg #[.int .i64 O,.string Q,.slice T I V,.slice J W L,.slice U N H,.int .i64 (G:Int)])) (XB wL w.heap.size (.int .i64 O) (.string Q) (.slice T I V) (.slice J W L) (.slice U N H) (.int .i64 (G:Int)))):=ZH.lined G HX.out kL zL sL ap ag hr aD aj.out;obtain ⟨x0,x1,x2,x3,x4,x5,-⟩:=zM pL;obtain ⟨y0,y1,y2,y3,y4,y5,yf⟩:=zM nL;obtain ⟨z0,z1,z2,z3,z4,z5,-⟩:=zM (Zu nL (.int .i64 O) (.string Q) (.slice T I V) (.slice J W L) (.slice U N H) (.int .i64 (G:Int)));have af:Hid (wS=(((((((((((w6.setCell ⟨P,0,none⟩ (.int .i64 O))).setCell ⟨P,1,none⟩ (.string Q))).setCell ⟨P,2,none⟩ (.slice T I V))).setCell ⟨P,3,none⟩ (.slice J W L))).setCell ⟨P,4,none⟩ (.slice U N H))).setCell ⟨P,5,none⟩ (.int .i64 qc))):=z;have aw:=A.symm;clear hx ah ai z A pS sS kS zS sf pL sL kL zL nL HX aj
      go_upto_region 13 with fail
      rw [←af.out];clear af m0 m1 m2 m3 m4 m5 mf;go_wp2
      exact bodyPost_ret (v:=.agg #[.int .i64 O,.string Q,.slice T I V,.slice J W L,.slice U N H,.int .i64 (G:Int)]) (by simp [results,Tryz.results136,go_sem,z0,z1,z2,z3,z4,z5]) rfl HP.out
end Go.Proofs.YtpejpbbdgblbeaaGreatDoor
