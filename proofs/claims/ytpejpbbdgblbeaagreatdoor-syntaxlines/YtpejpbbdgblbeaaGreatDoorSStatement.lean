import Derived.Test.YtpejpbbdgblbeaaGreatDoorSSetOrDo
import Derived.Test.YtpejpbbdgblbeaaGreatDoorMC22
namespace Go.Proofs.YtpejpbbdgblbeaaGreatDoor
open Go.RowKit Go.Shelf
set_option maxHeartbeats 16000000
set_option maxRecDepth 100000
theorem ZG.lined {r g o cap P B:Nat} {w w3 w5:World} {x:St} {us:List Tk} {a:Int} {b:ByteArray} {ve vb vl:Value} {c:Int} (line:Nat) (hx:yg (fun k=>B≤k) w3 x (.agg #[.int .i64 a,.string b,ve,vb,vl,.int .i64 c])) (hK5:zd r w w5) (hsz:w5.heap.size=w3.heap.size) (hsame:∀k,k≠P→w5.heap[k]?=w3.heap[k]?)
  (hPB:P<B) (hNP:w.heap.size<P) (hr:r<w.heap.size) (hg:g<w.heap.size) (hrd:zf r g o cap us w3) :
  ZG r g w (.ok (x.at line,us)) (.returned (.agg #[.int .i64 a,.string b,ve,vb,vl,.int .i64 line])) (Xf w5 w.heap.size (.int .i64 a) (.string b) ve vb vl (.int .i64 line)):=by
 cases hx with
 | mk k s es body els l0 _ _ _ gb cb gl cl ub ul he hb hbk hl hlk =>
  have y:w3.heap.size≤w5.heap.size:=by omega
  have h:∀j,B≤j→j<w3.heap.size→w5.heap[j]?=w3.heap[j]?:=fun j hj _=>hsame j (by omega)
  exact ZG.of_set6 (B:=B) k s line hK5 (Nat.le_refl _) hr hg (he.kept y h) (z6.kept (l:=body) (v:=vb) ⟨gb,cb,ub,hb,hbk⟩ y h) (z6.kept (l:=els) (v:=vl) ⟨gl,cl,ul,hl,hlk⟩ y h) (by omega) (hrd.keep (hsame r (by omega)) (hsame g (by omega)))
structure SB (r:Nat) (w:World) (P:Nat) (W:World):Prop where
 k:zd r w W
 n:W.heap[w.heap.size]?=some xf
 p:W.heap[P]?=some xf
theorem SB.next {r P:Nat} {w W W':World} (h:SB r w P W) (hk:zd r W W') (hr:r<w.heap.size) (hP:w.heap.size<P):SB r w P W' :=
 ⟨h.k.trans hk,(hk.block _ (Array.getElem?_eq_some_iff.1 h.n).1 (by omega)).trans h.n,(hk.block _ (Array.getElem?_eq_some_iff.1 h.p).1 (by omega)).trans h.p⟩
theorem SB.lt {r P:Nat} {w W:World} (h:SB r w P W):P<W.heap.size:=(Array.getElem?_eq_some_iff.1 h.p).1
theorem zeP {f line:Nat} {t1 t2:Tk} {us:List Tk} {R:PR St} (h:(zm (yo (t1::t2::us)) fun s us=>zm (zW [61] us) fun _ us=>zm (zh f 1 us) fun e us=>zm (zW [59] us) fun _ us=>some (.ok (.mk 1 s [e] [] [] line,us)))=some R) :
  ∃res,R=atL line (qG t1 t2 res)∧(t1.k=1→zo t2 [61]=true→zh f 1 us=some res):=by
 unfold yo zW at h
 simp only [zz,List.tail_cons] at h
 unfold qG
 by_cases h1:t1.k=1
 ·simp only [if_pos h1,zm,zz,List.tail_cons] at h
  by_cases h2:zo t2 [61]=true
  ·simp only [if_pos h2] at h
   cases h3:zh f 1 us with
   | none=>rw [h3] at h;cases h
   | some r3 =>
    rw [h3] at h;refine ⟨r3,?_,fun _ _=>rfl⟩
    rw [if_pos h1,if_pos h2];rcases r3 with a | ⟨e,o⟩
    ·simp only [Option.some.injEq] at h
     rw [←h];rfl
    ·simp only at h ⊢
     by_cases h4:zo (zw o) [59]=true
     ·simp only [if_pos h4,Option.some.injEq] at h ⊢
      rw [←h];rfl
     ·simp only [if_neg h4,Option.some.injEq] at h ⊢
      rw [←h];rfl
  ·simp only [if_neg h2,Option.some.injEq] at h
   refine ⟨.error 0,?_,fun _ h9=>absurd h9 h2⟩
   rw [if_pos h1,if_neg h2,←h];rfl
 ·simp only [if_neg h1,zm,Option.some.injEq] at h
  refine ⟨.error 0,?_,fun h9=>absurd h9 h1⟩
  rw [if_neg h1,←h];rfl
theorem zaX {f line:Nat} {t1:Tk} {us:List Tk} {R:PR St} (h:(if zo t1 [59]=true then some (.ok (.mk 6 [] [] [] [] line,us)) else zm (zh f 1 (t1::us)) fun e us=>zm (zW [59] us) fun _ us=>some (.ok (.mk 6 [] [e] [] [] line,us)))=some R) :
  ∃res,R=atL line (YY t1 us res)∧(zo t1 [59]=false→zh f 1 (t1::us)=some res):=by
 unfold zW at h
 unfold YY
 by_cases h1:zo t1 [59]=true
 ·simp only [if_pos h1,Option.some.injEq] at h
  refine ⟨.error 0,?_,fun h9=>by rw [h1] at h9;cases h9⟩
  rw [if_pos h1,←h];rfl
 ·simp only [if_neg h1] at h
  cases h3:zh f 1 (t1::us) with
  | none=>rw [h3] at h;cases h
  | some r3 =>
   rw [h3] at h;refine ⟨r3,?_,fun _=>rfl⟩
   rw [if_neg h1];rcases r3 with a | ⟨e,o⟩
   ·simp only [zm,Option.some.injEq] at h
    rw [←h];rfl
   ·simp only [zm] at h ⊢
    by_cases h4:zo (zw o) [59]=true
    ·simp only [if_pos h4,Option.some.injEq] at h ⊢
     rw [←h];rfl
    ·simp only [if_neg h4,Option.some.injEq] at h ⊢
     rw [←h];rfl
theorem zdD (r g o cap:Nat) (t:Tk) (w:World) (h:zf r g o cap [t] w) (hk:t.k≠1):Calls Tryz.prog 166 #[.pointer (some ⟨r,0,none⟩)] w (ZG r g w (.error t.at0)):=by
 obtain ⟨w0,s⟩:∃w0,w0=w.alloc xf:=⟨_,rfl⟩;have D:zf r g o cap [t] w0:=by rw [s];exact h.alloc _
 have G:zd r w w0:=by rw [s];exact (zd.refl r w).alloc _
 have A:=xe r g o cap t [] w0 D (fun h=>absurd h hk)
 have y:Hid (w0=w.alloc xf):=s;clear h D s;simp only [if_neg hk] at A
 go_enter Tryz.func166,Tryz.ntmps166
 go_wp2_with fail
 rw [←y.out];refine A.mono ?_;clear A;rintro e H ⟨z,rfl⟩;exact ⟨rfl,G.trans z,rfl⟩
theorem QT (r g o cap F:Nat) (ts:List Tk) (w:World) (R:PR St) (h:zf r g o cap ts w) (hE:zg ts) (hp:Zw (F+1) ts=some R)
  (hex:∀w1 o1 cap1 ts1 r1,zh F 1 ts1=some r1→zg ts1→zf r g o1 cap1 ts1 w1→zd r w w1→Calls Tryz.prog 44 #[.pointer (some ⟨r,0,none⟩)] w1 (zH r g w1 r1))
  (hbl:∀w1 o1 cap1 ts1 r1,zO F ts1=some r1→zg ts1→zf r g o1 cap1 ts1 w1→zd r w w1→Calls Tryz.prog 100 #[.pointer (some ⟨r,0,none⟩)] w1 (XD r g w1 r1)) :
  Calls Tryz.prog 136 #[.pointer (some ⟨r,0,none⟩)] w (ZG r g w R):=by
 obtain ⟨t0,V,rfl⟩:=hE.cons;have hr:=h.lt.1;have aI:=h.lt.2;have hf:=x9;obtain ⟨w0,ao⟩:∃w0,w0=w.alloc xf:=⟨_,rfl⟩;have h0:zf r g o cap (t0::V) w0:=by rw [ao];exact h.alloc _
 have ch:=Z3 r g o cap t0 V w0 h0;obtain ⟨P,hP⟩:∃P,P=w.heap.size+2:=⟨_,rfl⟩;obtain ⟨w1,aw⟩:∃w1,w1=(w0.alloc (ZK t0)).alloc xf:=⟨_,rfl⟩;have h1:zf r g o cap (t0::V) w1:=by rw [aw];exact (h0.alloc _).alloc _
 have a6:SB r w P w1:=by
  have bi:w0.heap.size=w.heap.size+1:=by rw [ao];simp
  refine ⟨by rw [aw,ao];exact (((zd.refl r w).alloc _).alloc _).alloc _,?_,?_⟩
  ·rw [aw,Below.heap_alloc _ _ _ (by simp;omega),Below.heap_alloc _ _ _ (by omega),ao];exact World.alloc_heap_new _ _
  ·have:=World.alloc_heap_new (w0.alloc (ZK t0)) xf
   rw [aw,hP];rw [show (w0.alloc (ZK t0)).heap.size=w.heap.size+2 by simp [bi]] at this
   exact this
 have aT:Hid (SB r w P w1):=a6;have a1:Hid (w0=w.alloc xf):=ao;have a5:Hid (w1=(w0.alloc (ZK t0)).alloc xf):=aw;have Y:Hid (w.heap.size<P):=show _<_ by omega
 have a4:Hid (w0.heap.size+1=P):=by show _=_;rw [ao,hP];simp
 have aH:Hid (∀w1 o1 cap1 ts1 r1,zh F 1 ts1=some r1→zg ts1→zf r g o1 cap1 ts1 w1→zd r w w1→Calls Tryz.prog 44 #[.pointer (some ⟨r,0,none⟩)] w1 (zH r g w1 r1)):=hex;have a7:Hid (∀w1 o1 cap1 ts1 r1,zO F ts1=some r1→zg ts1→zf r g o1 cap1 ts1 w1→zd r w w1→Calls Tryz.prog 100 #[.pointer (some ⟨r,0,none⟩)] w1 (XD r g w1 r1)):=hbl;rw [Zw] at hp;simp only [zz,List.tail_cons] at hp;have c1:=Zt r g o cap t0 V [108,101,116] w1 h1 (fun hi=>(hE.tail (zi hi)).ne)
 obtain ⟨D,aX⟩:∃D,D=t0.line:=⟨_,rfl⟩;have bc:Hid (D=t0.line):=aX;rw [←aX] at hp;clear h h0 h1 ao aw hP a6 hex hbl aX
 go_enter Tryz.func136,Tryz.ntmps136
 go_wp2_with fail
 rw [←a1.out];refine ch.mono ?_;clear ch;rintro e w' ⟨rfl,he⟩;subst he;simp only [VP];rw [←bc.out]
 go_upto_region 4 with fail
 rw [←a5.out];rw [a4.out];clear a1 a5 a4 hf
 by_cases i1:zo t0 [108,101,116]=true
 ·rw [i1] at c1
  rw [if_pos i1] at hp;have A:=hE.tail (zi i1);go_wp2_with fail
  refine c1.mono ?_;clear c1;rintro e w2 ⟨rfl,aF,h2⟩;have ap:zf r g (o+5) (cap-1) V w2:=by simpa using h2
  have aj:Hid (SB r w P w2):=aT.out.next aF hr Y.out
  have cl:∃R0,R=atL D R0∧Calls Tryz.prog 166 #[.pointer (some ⟨r,0,none⟩)] w2 (ZG r g w2 R0):=by
   obtain ⟨t1,am,rfl⟩:=A.cons;cases am with
   | nil =>
    have bt:t1.k=0:=A;refine ⟨.error t1.at0,?_,zdD r g _ _ t1 w2 ap (by omega)⟩
    simp only [yo,zz,zm,if_neg (show ¬ t1.k=1 by omega),Option.some.injEq] at hp
    rw [←hp];rfl
   | cons t2 us2 =>
    obtain ⟨res,hR,az⟩:=zeP hp;refine ⟨qG t1 t2 res,hR,?_⟩
    by_cases hc:t1.k=1∧zo t2 [61]=true
    ·have hb:=az hc.1 hc.2
     have ba:zg us2:=(A.tail (by omega)).tail (zi hc.2)
     exact zfk r g _ _ t1 t2 us2 w2 res ap A (fun l us e=>by subst e;exact (Ze F).1 _ _ _ _ hb ba) fun _ _ w3 o3 aK hR3 hK3=>aH.out w3 o3 aK us2 res hb ba hR3 (aj.out.k.trans hK3)
    ·have e9:qG t1 t2 res=qG t1 t2 (.error 0):=by
      unfold qG
      by_cases h1:t1.k=1
      ·rw [if_pos h1,if_pos h1,if_neg (fun h9=>hc ⟨h1,h9⟩),if_neg (fun h9=>hc ⟨h1,h9⟩)]
      ·rw [if_neg h1,if_neg h1]
     rw [e9];exact zfk r g _ _ t1 t2 us2 w2 (.error 0) ap A (fun l us e=>by cases e) fun h1 h9=>absurd ⟨h1,h9⟩ hc
  obtain ⟨R0,rfl,cl⟩:=cl;clear aF h2 ap hp A;go_wp2_with fail
  refine cl.mono ?_;clear cl;rintro e w3 ⟨al,s⟩;have W:Hid (SB r w P w3):=aj.out.next al hr Y.out;rcases R0 with a | ⟨x,us⟩
  ·obtain rfl:=s
   exact ⟨rfl,W.out.k,rfl⟩
  ·obtain ⟨v,o3,aK,rfl,hx,aN⟩:=s
   obtain ⟨K,H,I,O,Q,J,N,U,L,G,T,qc,rfl⟩:=hx.agg;have HX:Hid (yg (fun k=>w2.heap.size≤k) w3 x (.agg #[.int .i64 K,.string H,.slice I O Q,.slice J N U,.slice L G T,.int .i64 qc])):=hx
   have ah:Hid (zf r g o3 aK us w3):=aN;have an:=aj.out.lt;have ae:=Y.out;obtain ⟨m0,m1,m2,m3,m4,m5,mf⟩:=zJ W.out.p;obtain ⟨wS,z⟩:∃wS,wS=(((((((((((w3.setCell ⟨P,0,none⟩ (.int .i64 K))).setCell ⟨P,1,none⟩ (.string H))).setCell ⟨P,2,none⟩ (.slice I O Q))).setCell ⟨P,3,none⟩ (.slice J N U))).setCell ⟨P,4,none⟩ (.slice L G T))).setCell ⟨P,5,none⟩ (.int .i64 qc)):=⟨_,rfl⟩;have pS:wS.heap[P]?=some (Xg K H (.slice I O Q) (.slice J N U) (.slice L G T) qc):=by rw [z];exact Zq W.out.p (.int .i64 K) (.string H) (.slice I O Q) (.slice J N U) (.slice L G T) (.int .i64 qc)
   have sS:∀k,k≠P→wS.heap[k]?=w3.heap[k]?:=fun k hk=>by rw [z];exact Ye w3 P (.int .i64 K) (.string H) (.slice I O Q) (.slice J N U) (.slice L G T) (.int .i64 qc) hk
   have kS:zd r w wS:=by rw [z];exact Y4 W.out.k (Nat.le_of_lt ae) _ _ _ _ _ _
   have zS:wS.heap.size=w3.heap.size:=by rw [z];simp
   obtain ⟨-,-,-,-,-,s5,sf⟩:=zJ pS;have aL:=sf 5;obtain ⟨wL,y⟩:∃wL,wL=wS.setCell ⟨P,5,none⟩ (.int .i64 (D:Int)):=⟨_,rfl⟩;have pL:wL.heap[P]?=some (Xg K H (.slice I O Q) (.slice J N U) (.slice L G T) (D:Int)):=by rw [y];exact zn _ pS
   have sL:∀k,k≠P→wL.heap[k]?=w3.heap[k]?:=fun k hk=>by rw [y,Below.heap_setCell _ _ _ _ (by simpa using hk)];exact sS k hk
   have kL:zd r w wL:=by rw [y];exact kS.setOther (by simp;omega) _
   have zL:wL.heap.size=w3.heap.size:=by rw [y];simpa using zS
   have nL:wL.heap[w.heap.size]?=some xf:=(sL _ (by omega)).trans W.out.n
   have HP:Hid (ZG r g w (.ok (x.at D,us)) (.returned (.agg #[.int .i64 K,.string H,.slice I O Q,.slice J N U,.slice L G T,.int .i64 (D:Int)])) (Xf wL w.heap.size (.int .i64 K) (.string H) (.slice I O Q) (.slice J N U) (.slice L G T) (.int .i64 (D:Int)))):=ZG.lined D HX.out kL zL sL an ae hr aI ah.out;obtain ⟨x0,x1,x2,x3,x4,x5,-⟩:=zJ pL;obtain ⟨y0,y1,y2,y3,y4,y5,yf⟩:=zJ nL;obtain ⟨z0,z1,z2,z3,z4,z5,-⟩:=zJ (Zq nL (.int .i64 K) (.string H) (.slice I O Q) (.slice J N U) (.slice L G T) (.int .i64 (D:Int)));have ad:Hid (wS=(((((((((((w3.setCell ⟨P,0,none⟩ (.int .i64 K))).setCell ⟨P,1,none⟩ (.string H))).setCell ⟨P,2,none⟩ (.slice I O Q))).setCell ⟨P,3,none⟩ (.slice J N U))).setCell ⟨P,4,none⟩ (.slice L G T))).setCell ⟨P,5,none⟩ (.int .i64 qc))):=z;have ar:=y.symm;clear hx aN al z y pS sS kS zS sf pL sL kL zL nL HX ah
   go_upto_region 13 with fail
   rw [←ad.out];clear ad m0 m1 m2 m3 m4 m5 mf;go_wp2
   exact bodyPost_ret (v:=.agg #[.int .i64 K,.string H,.slice I O Q,.slice J N U,.slice L G T,.int .i64 (D:Int)]) (by simp [results,Tryz.results136,go_sem,z0,z1,z2,z3,z4,z5]) rfl HP.out
 ·have bh:zo t0 [108,101,116]=false:=by simpa using i1
  rw [bh] at c1;rw [if_neg i1] at hp;go_wp2_with fail
  refine c1.mono ?_;clear c1;rintro e w2 ⟨rfl,aF,h2⟩;have ap:zf r g o cap (t0::V) w2:=by simpa using h2
  have aj:Hid (SB r w P w2):=aT.out.next aF hr Y.out;have c2:=Zt r g o cap t0 V [105,102] w2 ap (fun hi=>(hE.tail (zi hi)).ne)
  clear aF h2 ap
  by_cases i2:zo t0 [105,102]=true
  ·rw [i2] at c2
   rw [if_pos i2] at hp;have A:=hE.tail (zi i2);go_wp2_with fail
   refine c2.mono ?_;clear c2;rintro e w3 ⟨rfl,al,h3⟩;have aA:zf r g (o+5) (cap-1) V w3:=by simpa using h3
   have W:Hid (SB r w P w3):=aj.out.next al hr Y.out
   have cl:∃R0,R=atL D R0∧Calls Tryz.prog 167 #[.pointer (some ⟨r,0,none⟩)] w3 (ZG r g w3 R0):=by
    obtain ⟨R0,h9,h8⟩:=zaP F V D hp;exact ⟨R0,h8.symm,zdw r g _ _ F V w3 R0 aA A h9 (fun w1 o1 cap1 ts1 r1 hb A hR hK=>aH.out w1 o1 cap1 ts1 r1 hb A hR (W.out.k.trans hK)) (fun w1 o1 cap1 ts1 r1 hb A hR hK=>a7.out w1 o1 cap1 ts1 r1 hb A hR (W.out.k.trans hK))⟩
   obtain ⟨R0,rfl,cl⟩:=cl;clear al h3 aA hp A;go_wp2_with fail
   refine cl.mono ?_;clear cl;rintro e w4 ⟨ak,s⟩;have Z:Hid (SB r w P w4):=W.out.next ak hr Y.out;rcases R0 with a | ⟨x,us⟩
   ·obtain rfl:=s
    exact ⟨rfl,Z.out.k,rfl⟩
   ·obtain ⟨v,o4,a8,rfl,hx,aM⟩:=s
    obtain ⟨K,H,I,O,Q,J,N,U,L,G,T,qc,rfl⟩:=hx.agg;have HX:Hid (yg (fun k=>w3.heap.size≤k) w4 x (.agg #[.int .i64 K,.string H,.slice I O Q,.slice J N U,.slice L G T,.int .i64 qc])):=hx
    have ah:Hid (zf r g o4 a8 us w4):=aM;have an:=W.out.lt;have ae:=Y.out;obtain ⟨m0,m1,m2,m3,m4,m5,mf⟩:=zJ Z.out.p;obtain ⟨wS,z⟩:∃wS,wS=(((((((((((w4.setCell ⟨P,0,none⟩ (.int .i64 K))).setCell ⟨P,1,none⟩ (.string H))).setCell ⟨P,2,none⟩ (.slice I O Q))).setCell ⟨P,3,none⟩ (.slice J N U))).setCell ⟨P,4,none⟩ (.slice L G T))).setCell ⟨P,5,none⟩ (.int .i64 qc)):=⟨_,rfl⟩;have pS:wS.heap[P]?=some (Xg K H (.slice I O Q) (.slice J N U) (.slice L G T) qc):=by rw [z];exact Zq Z.out.p (.int .i64 K) (.string H) (.slice I O Q) (.slice J N U) (.slice L G T) (.int .i64 qc)
    have sS:∀k,k≠P→wS.heap[k]?=w4.heap[k]?:=fun k hk=>by rw [z];exact Ye w4 P (.int .i64 K) (.string H) (.slice I O Q) (.slice J N U) (.slice L G T) (.int .i64 qc) hk
    have kS:zd r w wS:=by rw [z];exact Y4 Z.out.k (Nat.le_of_lt ae) _ _ _ _ _ _
    have zS:wS.heap.size=w4.heap.size:=by rw [z];simp
    obtain ⟨-,-,-,-,-,s5,sf⟩:=zJ pS;have aL:=sf 5;obtain ⟨wL,y⟩:∃wL,wL=wS.setCell ⟨P,5,none⟩ (.int .i64 (D:Int)):=⟨_,rfl⟩;have pL:wL.heap[P]?=some (Xg K H (.slice I O Q) (.slice J N U) (.slice L G T) (D:Int)):=by rw [y];exact zn _ pS
    have sL:∀k,k≠P→wL.heap[k]?=w4.heap[k]?:=fun k hk=>by rw [y,Below.heap_setCell _ _ _ _ (by simpa using hk)];exact sS k hk
    have kL:zd r w wL:=by rw [y];exact kS.setOther (by simp;omega) _
    have zL:wL.heap.size=w4.heap.size:=by rw [y];simpa using zS
    have nL:wL.heap[w.heap.size]?=some xf:=(sL _ (by omega)).trans Z.out.n
    have HP:Hid (ZG r g w (.ok (x.at D,us)) (.returned (.agg #[.int .i64 K,.string H,.slice I O Q,.slice J N U,.slice L G T,.int .i64 (D:Int)])) (Xf wL w.heap.size (.int .i64 K) (.string H) (.slice I O Q) (.slice J N U) (.slice L G T) (.int .i64 (D:Int)))):=ZG.lined D HX.out kL zL sL an ae hr aI ah.out;obtain ⟨x0,x1,x2,x3,x4,x5,-⟩:=zJ pL;obtain ⟨y0,y1,y2,y3,y4,y5,yf⟩:=zJ nL;obtain ⟨z0,z1,z2,z3,z4,z5,-⟩:=zJ (Zq nL (.int .i64 K) (.string H) (.slice I O Q) (.slice J N U) (.slice L G T) (.int .i64 (D:Int)));have ad:Hid (wS=(((((((((((w4.setCell ⟨P,0,none⟩ (.int .i64 K))).setCell ⟨P,1,none⟩ (.string H))).setCell ⟨P,2,none⟩ (.slice I O Q))).setCell ⟨P,3,none⟩ (.slice J N U))).setCell ⟨P,4,none⟩ (.slice L G T))).setCell ⟨P,5,none⟩ (.int .i64 qc))):=z;have ar:=y.symm;clear hx aM ak z y pS sS kS zS sf pL sL kL zL nL HX ah
    go_upto_region 13 with fail
    rw [←ad.out];clear ad m0 m1 m2 m3 m4 m5 mf;go_wp2
    exact bodyPost_ret (v:=.agg #[.int .i64 K,.string H,.slice I O Q,.slice J N U,.slice L G T,.int .i64 (D:Int)]) (by simp [results,Tryz.results136,go_sem,z0,z1,z2,z3,z4,z5]) rfl HP.out
  ·have bf:zo t0 [105,102]=false:=by simpa using i2
   rw [bf] at c2;rw [if_neg i2] at hp;go_wp2_with fail
   refine c2.mono ?_;clear c2;rintro e w3 ⟨rfl,al,h3⟩;have aA:zf r g o cap (t0::V) w3:=by simpa using h3
   have W:Hid (SB r w P w3):=aj.out.next al hr Y.out;have c3:=Zt r g o cap t0 V [119,104,105,108,101] w3 aA (fun hi=>(hE.tail (zi hi)).ne)
   clear al h3 aA
   by_cases i3:zo t0 [119,104,105,108,101]=true
   ·rw [i3] at c3
    rw [if_pos i3] at hp;have A:=hE.tail (zi i3);go_wp2_with fail
    refine c3.mono ?_;clear c3;rintro e w4 ⟨rfl,ak,h4⟩;have aD:zf r g (o+5) (cap-1) V w4:=by simpa using h4
    have Z:Hid (SB r w P w4):=W.out.next ak hr Y.out;cases hb1:zh F 1 V with
    | none=>rw [hb1] at hp;cases hp
    | some r1 =>
     rw [hb1] at hp;have ce:=aH.out w4 _ _ V r1 hb1 A aD Z.out.k;clear h4 aD ak;go_wp2_with fail
     refine ce.mono ?_;clear ce;rintro e w5 ⟨ai,s⟩;have aa:Hid (SB r w P w5):=Z.out.next ai hr Y.out;rcases r1 with a | ⟨x,us⟩
     ·obtain rfl:=s
      simp only [zm,Option.some.injEq] at hp;subst hp;exact ⟨rfl,aa.out.k,rfl⟩
     ·obtain ⟨v,o5,aJ,rfl,hx,aS⟩:=s
      obtain ⟨xa,xb,xc,x0,x1,x2,xl,rfl⟩:=hx.agg;have a9:=(Ze F).1 _ _ _ _ hb1 A;simp only [zm] at hp;cases hb2:zO F us with
      | none=>rw [hb2] at hp;cases hp
      | some r2 =>
       rw [hb2] at hp;obtain ⟨wA,aq⟩:∃wA,wA=w5.alloc (exO xa xb xc (.slice x0 x1 x2) xl):=⟨_,rfl⟩;have au:Hid (SB r w P wA):=by rw [aq];exact aa.out.next ((zd.refl r w5).alloc _) hr Y.out
       have a3:=aa.out.lt;have aB:=zI.one (S:=fun k=>w4.heap.size≤k) 45 (c:=[.int .i64 xa,.string xb,.int .i64 xc,.slice x0 x1 x2,.int .i64 xl]) hx rfl ai.size
       have be:wA.heap.size=w5.heap.size+1:=by rw [aq];simp
       have aR:=Z.out.lt;have ae:=Y.out;obtain ⟨t2,us2,rfl⟩:=a9.cons;have aQ:zf r g o5 aJ (t2::us2) wA:=by rw [aq];exact aS.alloc _
       obtain ⟨m0,m1,m2,m3,m4,m5,mf⟩:=zJ au.out.p;obtain ⟨wS,z⟩:∃wS,wS=(((((((((((wA.setCell ⟨P,0,none⟩ (.int .i64 5))).setCell ⟨P,1,none⟩ (.string ⟨#[]⟩))).setCell ⟨P,2,none⟩ (.slice (some ⟨w5.heap.size,0,none⟩) 1 1))).setCell ⟨P,3,none⟩ (.slice none 0 0))).setCell ⟨P,4,none⟩ (.slice none 0 0))).setCell ⟨P,5,none⟩ (.int .i64 0)):=⟨_,rfl⟩;have pS:wS.heap[P]?=some (Xg 5 ⟨#[]⟩ (.slice (some ⟨w5.heap.size,0,none⟩) 1 1) (.slice none 0 0) (.slice none 0 0) 0):=by rw [z];exact Zq au.out.p (.int .i64 5) (.string ⟨#[]⟩) (.slice (some ⟨w5.heap.size,0,none⟩) 1 1) (.slice none 0 0) (.slice none 0 0) (.int .i64 0)
       have sS:∀k,k≠P→wS.heap[k]?=wA.heap[k]?:=fun k hk=>by rw [z];exact Ye wA P (.int .i64 5) (.string ⟨#[]⟩) (.slice (some ⟨w5.heap.size,0,none⟩) 1 1) (.slice none 0 0) (.slice none 0 0) (.int .i64 0) hk
       have kS:zd r w wS:=by rw [z];exact Y4 au.out.k (Nat.le_of_lt ae) _ _ _ _ _ _
       have zS:wS.heap.size=wA.heap.size:=by rw [z];simp
       have aO:zf r g o5 aJ (t2::us2) wS:=aQ.keep (sS r (by omega)) (sS g (by omega))
       have aC:zI (fun k=>w4.heap.size≤k) wS [x] (.slice (some ⟨w5.heap.size,0,none⟩) 1 1):=by
        have h9:zI (fun k=>w4.heap.size≤k) wA [x] (.slice (some ⟨w5.heap.size,0,none⟩) 1 1):=by rw [aq];exact aB
        exact h9.kept (by omega) fun k hk _=>sS k (by omega)
       have cb:=a7.out wS o5 aJ (t2::us2) r2 hb2 a9 aO kS;have bq:Hid (wA=w5.alloc (exO xa xb xc (.slice x0 x1 x2) xl)):=aq;have ad:Hid (wS=(((((((((((wA.setCell ⟨P,0,none⟩ (.int .i64 5))).setCell ⟨P,1,none⟩ (.string ⟨#[]⟩))).setCell ⟨P,2,none⟩ (.slice (some ⟨w5.heap.size,0,none⟩) 1 1))).setCell ⟨P,3,none⟩ (.slice none 0 0))).setCell ⟨P,4,none⟩ (.slice none 0 0))).setCell ⟨P,5,none⟩ (.int .i64 0))):=z;have aY:Hid (wS.heap[P]?=some (Xg 5 ⟨#[]⟩ (.slice (some ⟨w5.heap.size,0,none⟩) 1 1) (.slice none 0 0) (.slice none 0 0) 0)):=pS;have aW:Hid (wS.heap[w.heap.size]?=some xf):=(sS _ (by omega)).trans au.out.n
       have aU:Hid (zd r w wS):=kS;have aE:Hid (zI (fun k=>w4.heap.size≤k) wS [x] (.slice (some ⟨w5.heap.size,0,none⟩) 1 1)):=aC
       have HZ:Hid (P<w4.heap.size∧w4.heap.size≤wS.heap.size):=⟨aR,by have:=ai.size;omega⟩
       have aZ:=aq.symm;clear hx aS aQ aO aB aC be aq z pS sS kS zS ai aR a3
       go_upto_region 10 with fail
       rw [←ad.out];clear ad m0 m1 m2 m3 m4 m5 mf aZ;go_wp2_with fail
       refine cb.mono ?_;clear cb;rintro e w6 ⟨ag,s⟩;rcases r2 with a | ⟨bl,bd⟩
       ·obtain rfl:=s
        simp only [Option.some.injEq] at hp;subst hp;exact ⟨rfl,aU.out.trans ag,rfl⟩
       ·obtain ⟨vb,o6,av,rfl,aV,af⟩:=s
        simp only [Option.some.injEq] at hp;subst hp;obtain ⟨c0,c1,c2,rfl⟩:=aV.slice;have hz:=HZ.out;have a2:P<wS.heap.size:=(Array.getElem?_eq_some_iff.1 aY.out).1;have a0:w.heap.size<wS.heap.size:=(Array.getElem?_eq_some_iff.1 aW.out).1;have p6:=(ag.block P a2 (by omega)).trans aY.out
        have n6:=(ag.block w.heap.size a0 (by omega)).trans aW.out
        have k6:zd r w w6:=aU.out.trans ag;obtain ⟨-,-,-,g3,-,-,gf⟩:=zJ p6;have bo:=gf 3;obtain ⟨wB,ay⟩:∃wB,wB=w6.setCell ⟨P,3,none⟩ (.slice c0 c1 c2):=⟨_,rfl⟩;have pB:wB.heap[P]?=some (Xg 5 ⟨#[]⟩ (.slice (some ⟨w5.heap.size,0,none⟩) 1 1) (.slice c0 c1 c2) (.slice none 0 0) 0):=by rw [ay];exact zn _ p6
        have sB:∀k,k≠P→wB.heap[k]?=w6.heap[k]?:=fun k hk=>by rw [ay];exact Below.heap_setCell _ _ _ _ (by simpa using hk)
        have kB:zd r w wB:=by rw [ay];exact k6.setOther (by simp;omega) _
        have zB:wB.heap.size=w6.heap.size:=by rw [ay];simp
        obtain ⟨-,-,-,-,-,s5,sf⟩:=zJ pB;have aL:=sf 5;obtain ⟨wL,y⟩:∃wL,wL=wB.setCell ⟨P,5,none⟩ (.int .i64 (D:Int)):=⟨_,rfl⟩;have pL:wL.heap[P]?=some (Xg 5 ⟨#[]⟩ (.slice (some ⟨w5.heap.size,0,none⟩) 1 1) (.slice c0 c1 c2) (.slice none 0 0) (D:Int)):=by rw [y];exact zn _ pB
        have sL:∀k,k≠P→wL.heap[k]?=w6.heap[k]?:=fun k hk=>by rw [y,Below.heap_setCell _ _ _ _ (by simpa using hk)];exact sB k hk
        have kL:zd r w wL:=by rw [y];exact kB.setOther (by simp;omega) _
        have zL:wL.heap.size=w6.heap.size:=by rw [y];simpa using zB
        have nL:wL.heap[w.heap.size]?=some xf:=(sL _ (by omega)).trans n6
        have aG:zI (fun k=>w4.heap.size≤k) wL [x] (.slice (some ⟨w5.heap.size,0,none⟩) 1 1):=(aE.out.keptR ag fun k hk=>by omega).kept (by omega) fun k hk _=>sL k (by omega)
        have aP:z6 (fun k=>w4.heap.size≤k) wL bl (.slice c0 c1 c2):=(aV.kept (w':=wL) (by omega) fun k hk _=>sL k (by omega)).wide fun k hk=>by omega
        have HP:Hid (ZG r g w (.ok (.mk 5 [] [x] bl [] D,bd)) (.returned (.agg #[.int .i64 5,.string ⟨#[]⟩,.slice (some ⟨w5.heap.size,0,none⟩) 1 1,.slice c0 c1 c2,.slice none 0 0,.int .i64 (D:Int)])) (Xf wL w.heap.size (.int .i64 5) (.string ⟨#[]⟩) (.slice (some ⟨w5.heap.size,0,none⟩) 1 1) (.slice c0 c1 c2) (.slice none 0 0) (.int .i64 (D:Int)))) :=
         ZG.of_set6 (B:=w4.heap.size) 5 [] D kL (Nat.le_refl _) hr aI aG aP (z6.nil _ _) (by omega) (af.keep (sL r (by omega)) (sL g (by omega)))
        obtain ⟨bk,bm,bs,bn,bp,br,-⟩:=zJ pL;obtain ⟨y0,y1,y2,y3,y4,y5,yf⟩:=zJ nL;obtain ⟨z0,z1,z2,z3,z4,z5,-⟩:=zJ (Zq nL (.int .i64 5) (.string ⟨#[]⟩) (.slice (some ⟨w5.heap.size,0,none⟩) 1 1) (.slice c0 c1 c2) (.slice none 0 0) (.int .i64 (D:Int)));have bj:=ay.symm;have ar:=y.symm;clear ay y pB sB kB zB sf gf pL sL kL zL nL aG aP p6 n6 k6 hz a2 a0 aV af ag aY aW aU aE HZ;go_wp2
        exact bodyPost_ret (v:=.agg #[.int .i64 5,.string ⟨#[]⟩,.slice (some ⟨w5.heap.size,0,none⟩) 1 1,.slice c0 c1 c2,.slice none 0 0,.int .i64 (D:Int)]) (by simp [results,Tryz.results136,go_sem,z0,z1,z2,z3,z4,z5]) rfl HP.out
   ·have bg:zo t0 [119,104,105,108,101]=false:=by simpa using i3
    rw [bg] at c3;rw [if_neg i3] at hp;go_wp2_with fail
    refine c3.mono ?_;clear c3;rintro e w4 ⟨rfl,ak,h4⟩;have aD:zf r g o cap (t0::V) w4:=by simpa using h4
    have Z:Hid (SB r w P w4):=W.out.next ak hr Y.out;have c4:=Zt r g o cap t0 V [114,101,116,117,114,110] w4 aD (fun hi=>(hE.tail (zi hi)).ne)
    clear ak h4 aD
    by_cases i4:zo t0 [114,101,116,117,114,110]=true
    ·rw [i4] at c4
     rw [if_pos i4] at hp;have A:=hE.tail (zi i4);go_wp2_with fail
     refine c4.mono ?_;clear c4;rintro e w5 ⟨rfl,ai,h5⟩;have ax:zf r g (o+5) (cap-1) V w5:=by simpa using h5
     have aa:Hid (SB r w P w5):=Z.out.next ai hr Y.out
     have cl:∃R0,R=atL D R0∧Calls Tryz.prog 168 #[.pointer (some ⟨r,0,none⟩)] w5 (ZG r g w5 R0):=by
      obtain ⟨t1,am,rfl⟩:=A.cons;obtain ⟨res,hR,az⟩:=zaX hp;refine ⟨YY t1 am res,hR,?_⟩
      by_cases hc:zo t1 [59]=false
      ·have hb:=az hc
       exact QM r g _ _ t1 am w5 res ax A (fun l us e=>by subst e;exact (Ze F).1 _ _ _ _ hb A) fun _ w1 o1 cap1 hR1 hK1=>aH.out w1 o1 cap1 (t1::am) res hb A hR1 (aa.out.k.trans hK1)
      ·have e9:YY t1 am res=YY t1 am (.error 0):=by
        unfold YY
        rw [if_pos (by simpa using hc),if_pos (by simpa using hc)]
       rw [e9];exact QM r g _ _ t1 am w5 (.error 0) ax A (fun l us e=>by cases e) fun h9=>absurd h9 hc
     obtain ⟨R0,rfl,cl⟩:=cl;clear ai h5 ax hp A;go_wp2_with fail
     refine cl.mono ?_;clear cl;rintro e w6 ⟨ag,s⟩;have ab:Hid (SB r w P w6):=aa.out.next ag hr Y.out;rcases R0 with a | ⟨x,us⟩
     ·obtain rfl:=s
      exact ⟨rfl,ab.out.k,rfl⟩
     ·obtain ⟨v,o6,av,rfl,hx,af⟩:=s
      obtain ⟨K,H,I,O,Q,J,N,U,L,G,T,qc,rfl⟩:=hx.agg;have HX:Hid (yg (fun k=>w5.heap.size≤k) w6 x (.agg #[.int .i64 K,.string H,.slice I O Q,.slice J N U,.slice L G T,.int .i64 qc])):=hx
      have ah:Hid (zf r g o6 av us w6):=af;have an:=aa.out.lt;have ae:=Y.out;obtain ⟨m0,m1,m2,m3,m4,m5,mf⟩:=zJ ab.out.p;obtain ⟨wS,z⟩:∃wS,wS=(((((((((((w6.setCell ⟨P,0,none⟩ (.int .i64 K))).setCell ⟨P,1,none⟩ (.string H))).setCell ⟨P,2,none⟩ (.slice I O Q))).setCell ⟨P,3,none⟩ (.slice J N U))).setCell ⟨P,4,none⟩ (.slice L G T))).setCell ⟨P,5,none⟩ (.int .i64 qc)):=⟨_,rfl⟩;have pS:wS.heap[P]?=some (Xg K H (.slice I O Q) (.slice J N U) (.slice L G T) qc):=by rw [z];exact Zq ab.out.p (.int .i64 K) (.string H) (.slice I O Q) (.slice J N U) (.slice L G T) (.int .i64 qc)
      have sS:∀k,k≠P→wS.heap[k]?=w6.heap[k]?:=fun k hk=>by rw [z];exact Ye w6 P (.int .i64 K) (.string H) (.slice I O Q) (.slice J N U) (.slice L G T) (.int .i64 qc) hk
      have kS:zd r w wS:=by rw [z];exact Y4 ab.out.k (Nat.le_of_lt ae) _ _ _ _ _ _
      have zS:wS.heap.size=w6.heap.size:=by rw [z];simp
      obtain ⟨-,-,-,-,-,s5,sf⟩:=zJ pS;have aL:=sf 5;obtain ⟨wL,y⟩:∃wL,wL=wS.setCell ⟨P,5,none⟩ (.int .i64 (D:Int)):=⟨_,rfl⟩;have pL:wL.heap[P]?=some (Xg K H (.slice I O Q) (.slice J N U) (.slice L G T) (D:Int)):=by rw [y];exact zn _ pS
      have sL:∀k,k≠P→wL.heap[k]?=w6.heap[k]?:=fun k hk=>by rw [y,Below.heap_setCell _ _ _ _ (by simpa using hk)];exact sS k hk
      have kL:zd r w wL:=by rw [y];exact kS.setOther (by simp;omega) _
      have zL:wL.heap.size=w6.heap.size:=by rw [y];simpa using zS
      have nL:wL.heap[w.heap.size]?=some xf:=(sL _ (by omega)).trans ab.out.n
      have HP:Hid (ZG r g w (.ok (x.at D,us)) (.returned (.agg #[.int .i64 K,.string H,.slice I O Q,.slice J N U,.slice L G T,.int .i64 (D:Int)])) (Xf wL w.heap.size (.int .i64 K) (.string H) (.slice I O Q) (.slice J N U) (.slice L G T) (.int .i64 (D:Int)))):=ZG.lined D HX.out kL zL sL an ae hr aI ah.out;obtain ⟨x0,x1,x2,x3,x4,x5,-⟩:=zJ pL;obtain ⟨y0,y1,y2,y3,y4,y5,yf⟩:=zJ nL;obtain ⟨z0,z1,z2,z3,z4,z5,-⟩:=zJ (Zq nL (.int .i64 K) (.string H) (.slice I O Q) (.slice J N U) (.slice L G T) (.int .i64 (D:Int)));have ad:Hid (wS=(((((((((((w6.setCell ⟨P,0,none⟩ (.int .i64 K))).setCell ⟨P,1,none⟩ (.string H))).setCell ⟨P,2,none⟩ (.slice I O Q))).setCell ⟨P,3,none⟩ (.slice J N U))).setCell ⟨P,4,none⟩ (.slice L G T))).setCell ⟨P,5,none⟩ (.int .i64 qc))):=z;have ar:=y.symm;clear hx af ag z y pS sS kS zS sf pL sL kL zL nL HX ah
      go_upto_region 13 with fail
      rw [←ad.out];clear ad m0 m1 m2 m3 m4 m5 mf;go_wp2
      exact bodyPost_ret (v:=.agg #[.int .i64 K,.string H,.slice I O Q,.slice J N U,.slice L G T,.int .i64 (D:Int)]) (by simp [results,Tryz.results136,go_sem,z0,z1,z2,z3,z4,z5]) rfl HP.out
    ·have bb:zo t0 [114,101,116,117,114,110]=false:=by simpa using i4
     rw [bb] at c4;rw [if_neg i4] at hp;go_wp2_with fail
     refine c4.mono ?_;clear c4;rintro e w5 ⟨rfl,ai,h5⟩;have ax:zf r g o cap (t0::V) w5:=by simpa using h5
     have aa:Hid (SB r w P w5):=Z.out.next ai hr Y.out
     have cl:∃R0,R=atL D R0∧Calls Tryz.prog 169 #[.pointer (some ⟨r,0,none⟩)] w5 (ZG r g w5 R0):=by
      obtain ⟨R0,h9,h8⟩:=zeE F (t0::V) D hp;exact ⟨R0,h8.symm,zcs r g _ _ F (t0::V) w5 R0 ax hE h9 (fun w1 o1 cap1 ts1 r1 hb A hR hK=>aH.out w1 o1 cap1 ts1 r1 hb A hR (aa.out.k.trans hK))⟩
     obtain ⟨R0,rfl,cl⟩:=cl;clear ai h5 ax hp;go_wp2_with fail
     refine cl.mono ?_;clear cl;rintro e w6 ⟨ag,s⟩;have ab:Hid (SB r w P w6):=aa.out.next ag hr Y.out;rcases R0 with a | ⟨x,us⟩
     ·obtain rfl:=s
      exact ⟨rfl,ab.out.k,rfl⟩
     ·obtain ⟨v,o6,av,rfl,hx,af⟩:=s
      obtain ⟨K,H,I,O,Q,J,N,U,L,G,T,qc,rfl⟩:=hx.agg;have HX:Hid (yg (fun k=>w5.heap.size≤k) w6 x (.agg #[.int .i64 K,.string H,.slice I O Q,.slice J N U,.slice L G T,.int .i64 qc])):=hx
      have ah:Hid (zf r g o6 av us w6):=af;have an:=aa.out.lt;have ae:=Y.out;obtain ⟨m0,m1,m2,m3,m4,m5,mf⟩:=zJ ab.out.p;obtain ⟨wS,z⟩:∃wS,wS=(((((((((((w6.setCell ⟨P,0,none⟩ (.int .i64 K))).setCell ⟨P,1,none⟩ (.string H))).setCell ⟨P,2,none⟩ (.slice I O Q))).setCell ⟨P,3,none⟩ (.slice J N U))).setCell ⟨P,4,none⟩ (.slice L G T))).setCell ⟨P,5,none⟩ (.int .i64 qc)):=⟨_,rfl⟩;have pS:wS.heap[P]?=some (Xg K H (.slice I O Q) (.slice J N U) (.slice L G T) qc):=by rw [z];exact Zq ab.out.p (.int .i64 K) (.string H) (.slice I O Q) (.slice J N U) (.slice L G T) (.int .i64 qc)
      have sS:∀k,k≠P→wS.heap[k]?=w6.heap[k]?:=fun k hk=>by rw [z];exact Ye w6 P (.int .i64 K) (.string H) (.slice I O Q) (.slice J N U) (.slice L G T) (.int .i64 qc) hk
      have kS:zd r w wS:=by rw [z];exact Y4 ab.out.k (Nat.le_of_lt ae) _ _ _ _ _ _
      have zS:wS.heap.size=w6.heap.size:=by rw [z];simp
      obtain ⟨-,-,-,-,-,s5,sf⟩:=zJ pS;have aL:=sf 5;obtain ⟨wL,y⟩:∃wL,wL=wS.setCell ⟨P,5,none⟩ (.int .i64 (D:Int)):=⟨_,rfl⟩;have pL:wL.heap[P]?=some (Xg K H (.slice I O Q) (.slice J N U) (.slice L G T) (D:Int)):=by rw [y];exact zn _ pS
      have sL:∀k,k≠P→wL.heap[k]?=w6.heap[k]?:=fun k hk=>by rw [y,Below.heap_setCell _ _ _ _ (by simpa using hk)];exact sS k hk
      have kL:zd r w wL:=by rw [y];exact kS.setOther (by simp;omega) _
      have zL:wL.heap.size=w6.heap.size:=by rw [y];simpa using zS
      have nL:wL.heap[w.heap.size]?=some xf:=(sL _ (by omega)).trans ab.out.n
      have HP:Hid (ZG r g w (.ok (x.at D,us)) (.returned (.agg #[.int .i64 K,.string H,.slice I O Q,.slice J N U,.slice L G T,.int .i64 (D:Int)])) (Xf wL w.heap.size (.int .i64 K) (.string H) (.slice I O Q) (.slice J N U) (.slice L G T) (.int .i64 (D:Int)))):=ZG.lined D HX.out kL zL sL an ae hr aI ah.out;obtain ⟨x0,x1,x2,x3,x4,x5,-⟩:=zJ pL;obtain ⟨y0,y1,y2,y3,y4,y5,yf⟩:=zJ nL;obtain ⟨z0,z1,z2,z3,z4,z5,-⟩:=zJ (Zq nL (.int .i64 K) (.string H) (.slice I O Q) (.slice J N U) (.slice L G T) (.int .i64 (D:Int)));have ad:Hid (wS=(((((((((((w6.setCell ⟨P,0,none⟩ (.int .i64 K))).setCell ⟨P,1,none⟩ (.string H))).setCell ⟨P,2,none⟩ (.slice I O Q))).setCell ⟨P,3,none⟩ (.slice J N U))).setCell ⟨P,4,none⟩ (.slice L G T))).setCell ⟨P,5,none⟩ (.int .i64 qc))):=z;have ar:=y.symm;clear hx af ag z y pS sS kS zS sf pL sL kL zL nL HX ah
      go_upto_region 13 with fail
      rw [←ad.out];clear ad m0 m1 m2 m3 m4 m5 mf;go_wp2
      exact bodyPost_ret (v:=.agg #[.int .i64 K,.string H,.slice I O Q,.slice J N U,.slice L G T,.int .i64 (D:Int)]) (by simp [results,Tryz.results136,go_sem,z0,z1,z2,z3,z4,z5]) rfl HP.out
end Go.Proofs.YtpejpbbdgblbeaaGreatDoor
