import Derived.Test.YtpejpbbdgblbeaaGreatDoorSSetOrDo
import Derived.Test.YtpejpbbdgblbeaaGreatDoorMC22
namespace Go.Proofs.YtpejpbbdgblbeaaGreatDoor
open Go.RowKit Go.Shelf
set_option maxHeartbeats 16000000
set_option maxRecDepth 100000
theorem Z0.lined {r g o cap P B:Nat} {w w3 w5:World} {x:St} {us:List Tk} {a:Int} {b:ByteArray} {ve vb vl:Value} {c:Int} (line:Nat) (hx:yS (fun k=>B≤k) w3 x (.agg #[.int .i64 a,.string b,ve,vb,vl,.int .i64 c])) (hK5:zc r w w5) (hsz:w5.heap.size=w3.heap.size) (hsame:∀k,k≠P→w5.heap[k]?=w3.heap[k]?)
  (hPB:P<B) (hNP:w.heap.size<P) (hr:r<w.heap.size) (hg:g<w.heap.size) (hrd:zh r g o cap us w3) :
  Z0 r g w (.ok (x.at line,us)) (.returned (.agg #[.int .i64 a,.string b,ve,vb,vl,.int .i64 line])) (Yu w5 w.heap.size (.int .i64 a) (.string b) ve vb vl (.int .i64 line)):=by
 cases hx with
 | mk k s es body els l0 _ _ _ gb cb gl cl ub ul he hb hbk hl hlk =>
  have hs:w3.heap.size≤w5.heap.size:=by omega
  have hkp:∀j,B≤j→j<w3.heap.size→w5.heap[j]?=w3.heap[j]?:=fun j hj _=>hsame j (by omega)
  exact Z0.of_set6 (B:=B) k s line hK5 (Nat.le_refl _) hr hg (he.kept hs hkp) (zD.kept (l:=body) (v:=vb) ⟨gb,cb,ub,hb,hbk⟩ hs hkp) (zD.kept (l:=els) (v:=vl) ⟨gl,cl,ul,hl,hlk⟩ hs hkp) (by omega) (hrd.keep (hsame r (by omega)) (hsame g (by omega)))
structure SB (r:Nat) (w:World) (P:Nat) (W:World):Prop where
 k:zc r w W
 n:W.heap[w.heap.size]?=some YR
 p:W.heap[P]?=some YR
theorem SB.next {r P:Nat} {w W W':World} (h:SB r w P W) (hk:zc r W W') (hr:r<w.heap.size) (hP:w.heap.size<P):SB r w P W' :=
 ⟨h.k.trans hk,(hk.block _ (Array.getElem?_eq_some_iff.1 h.n).1 (by omega)).trans h.n,(hk.block _ (Array.getElem?_eq_some_iff.1 h.p).1 (by omega)).trans h.p⟩
theorem SB.lt {r P:Nat} {w W:World} (h:SB r w P W):P<W.heap.size:=(Array.getElem?_eq_some_iff.1 h.p).1
theorem zgX {f line:Nat} {t1 t2:Tk} {us:List Tk} {R:PR St} (h:(zq (Yg (t1::t2::us)) fun s us=>zq (Zf [61] us) fun _ us=>zq (zk f 1 us) fun e us=>zq (Zf [59] us) fun _ us=>some (.ok (.mk 1 s [e] [] [] line,us)))=some R) :
  ∃res,R=atL line (zaw t1 t2 res)∧(t1.k=1→zn t2 [61]=true→zk f 1 us=some res):=by
 unfold Yg Zf at h
 simp only [zI,List.tail_cons] at h
 unfold zaw
 by_cases h1:t1.k=1
 ·simp only [if_pos h1,zq,zI,List.tail_cons] at h
  by_cases h2:zn t2 [61]=true
  ·simp only [if_pos h2] at h
   cases h3:zk f 1 us with
   | none=>rw [h3] at h;cases h
   | some r3 =>
    rw [h3] at h;refine ⟨r3,?_,fun _ _=>rfl⟩
    rw [if_pos h1,if_pos h2];rcases r3 with a | ⟨e,us3⟩
    ·simp only [Option.some.injEq] at h
     rw [←h];rfl
    ·simp only at h ⊢
     by_cases h4:zn (zx us3) [59]=true
     ·simp only [if_pos h4,Option.some.injEq] at h ⊢
      rw [←h];rfl
     ·simp only [if_neg h4,Option.some.injEq] at h ⊢
      rw [←h];rfl
  ·simp only [if_neg h2,Option.some.injEq] at h
   refine ⟨.error 0,?_,fun _ h9=>absurd h9 h2⟩
   rw [if_pos h1,if_neg h2,←h];rfl
 ·simp only [if_neg h1,zq,Option.some.injEq] at h
  refine ⟨.error 0,?_,fun h9=>absurd h9 h1⟩
  rw [if_neg h1,←h];rfl
theorem zcT {f line:Nat} {t1:Tk} {us:List Tk} {R:PR St} (h:(if zn t1 [59]=true then some (.ok (.mk 6 [] [] [] [] line,us)) else zq (zk f 1 (t1::us)) fun e us=>zq (Zf [59] us) fun _ us=>some (.ok (.mk 6 [] [e] [] [] line,us)))=some R) :
  ∃res,R=atL line (xZ t1 us res)∧(zn t1 [59]=false→zk f 1 (t1::us)=some res):=by
 unfold Zf at h
 unfold xZ
 by_cases h1:zn t1 [59]=true
 ·simp only [if_pos h1,Option.some.injEq] at h
  refine ⟨.error 0,?_,fun h9=>by rw [h1] at h9;cases h9⟩
  rw [if_pos h1,←h];rfl
 ·simp only [if_neg h1] at h
  cases h3:zk f 1 (t1::us) with
  | none=>rw [h3] at h;cases h
  | some r3 =>
   rw [h3] at h;refine ⟨r3,?_,fun _=>rfl⟩
   rw [if_neg h1];rcases r3 with a | ⟨e,us3⟩
   ·simp only [zq,Option.some.injEq] at h
    rw [←h];rfl
   ·simp only [zq] at h ⊢
    by_cases h4:zn (zx us3) [59]=true
    ·simp only [if_pos h4,Option.some.injEq] at h ⊢
     rw [←h];rfl
    ·simp only [if_neg h4,Option.some.injEq] at h ⊢
     rw [←h];rfl
theorem zfS (r g o cap:Nat) (t:Tk) (w:World) (h:zh r g o cap [t] w) (hk:t.k≠1):Calls Tryz.prog 166 #[.pointer (some ⟨r,0,none⟩)] w (Z0 r g w (.error t.at0)):=by
 obtain ⟨w0,hw0⟩:∃w0,w0=w.alloc YR:=⟨_,rfl⟩;have h0:zh r g o cap [t] w0:=by rw [hw0];exact h.alloc _
 have k0:zc r w w0:=by rw [hw0];exact (zc.refl r w).alloc _
 have cn:=Xl r g o cap t [] w0 h0 (fun h=>absurd h hk)
 have HW0:Hid (w0=w.alloc YR):=hw0;clear h h0 hw0;simp only [if_neg hk] at cn
 go_enter Tryz.func166,Tryz.ntmps166
 go_wp2_with fail
 rw [←HW0.out];refine cn.mono ?_;clear cn;rintro e w1 ⟨hk1,rfl⟩;exact ⟨rfl,k0.trans hk1,rfl⟩
theorem zbE (r g o cap F:Nat) (ts:List Tk) (w:World) (R:PR St) (h:zh r g o cap ts w) (hE:zj ts) (hp:ZQ (F+1) ts=some R)
  (hex:∀w1 o1 cap1 ts1 r1,zk F 1 ts1=some r1→zj ts1→zh r g o1 cap1 ts1 w1→zc r w w1→Calls Tryz.prog 44 #[.pointer (some ⟨r,0,none⟩)] w1 (zQ r g w1 r1))
  (hbl:∀w1 o1 cap1 ts1 r1,zU F ts1=some r1→zj ts1→zh r g o1 cap1 ts1 w1→zc r w w1→Calls Tryz.prog 100 #[.pointer (some ⟨r,0,none⟩)] w1 (vV r g w1 r1)) :
  Calls Tryz.prog 136 #[.pointer (some ⟨r,0,none⟩)] w (Z0 r g w R):=by
 obtain ⟨t0,ts0,rfl⟩:=hE.cons;have hr:=h.lt.1;have hgw:=h.lt.2;have hf:=Z1;obtain ⟨w0,hw0⟩:∃w0,w0=w.alloc YR:=⟨_,rfl⟩;have h0:zh r g o cap (t0::ts0) w0:=by rw [hw0];exact h.alloc _
 have ch:=yR r g o cap t0 ts0 w0 h0;obtain ⟨P,hP⟩:∃P,P=w.heap.size+2:=⟨_,rfl⟩;obtain ⟨w1,hw1⟩:∃w1,w1=(w0.alloc (yi t0)).alloc YR:=⟨_,rfl⟩;have h1:zh r g o cap (t0::ts0) w1:=by rw [hw1];exact (h0.alloc _).alloc _
 have hsb:SB r w P w1:=by
  have hs0:w0.heap.size=w.heap.size+1:=by rw [hw0];simp
  refine ⟨by rw [hw1,hw0];exact (((zc.refl r w).alloc _).alloc _).alloc _,?_,?_⟩
  ·rw [hw1,Below.heap_alloc _ _ _ (by simp;omega),Below.heap_alloc _ _ _ (by omega),hw0];exact World.alloc_heap_new _ _
  ·have:=World.alloc_heap_new (w0.alloc (yi t0)) YR
   rw [hw1,hP];rw [show (w0.alloc (yi t0)).heap.size=w.heap.size+2 by simp [hs0]] at this
   exact this
 have HSB1:Hid (SB r w P w1):=hsb;have HW0:Hid (w0=w.alloc YR):=hw0;have HW1:Hid (w1=(w0.alloc (yi t0)).alloc YR):=hw1;have HNP:Hid (w.heap.size<P):=show _<_ by omega
 have HPP:Hid (w0.heap.size+1=P):=by show _=_;rw [hw0,hP];simp
 have HEX:Hid (∀w1 o1 cap1 ts1 r1,zk F 1 ts1=some r1→zj ts1→zh r g o1 cap1 ts1 w1→zc r w w1→Calls Tryz.prog 44 #[.pointer (some ⟨r,0,none⟩)] w1 (zQ r g w1 r1)):=hex;have HBL:Hid (∀w1 o1 cap1 ts1 r1,zU F ts1=some r1→zj ts1→zh r g o1 cap1 ts1 w1→zc r w w1→Calls Tryz.prog 100 #[.pointer (some ⟨r,0,none⟩)] w1 (vV r g w1 r1)):=hbl;rw [ZQ] at hp;simp only [zI,List.tail_cons] at hp;have c1:=ZL r g o cap t0 ts0 [108,101,116] w1 h1 (fun hi=>(hE.tail (zl hi)).ne)
 obtain ⟨LN,hLN⟩:∃LN,LN=t0.line:=⟨_,rfl⟩;have HLN:Hid (LN=t0.line):=hLN;rw [←hLN] at hp;clear h h0 h1 hw0 hw1 hP hsb hex hbl hLN
 go_enter Tryz.func136,Tryz.ntmps136
 go_wp2_with fail
 rw [←HW0.out];refine ch.mono ?_;clear ch;rintro e w' ⟨rfl,he⟩;subst he;simp only [Xc];rw [←HLN.out]
 go_upto_region 4 with fail
 rw [←HW1.out];rw [HPP.out];clear HW0 HW1 HPP hf
 by_cases i1:zn t0 [108,101,116]=true
 ·rw [i1] at c1
  rw [if_pos i1] at hp;have hE1:=hE.tail (zl i1);go_wp2_with fail
  refine c1.mono ?_;clear c1;rintro e w2 ⟨rfl,hk2,h2⟩;have h2':zh r g (o+5) (cap-1) ts0 w2:=by simpa using h2
  have HSB2:Hid (SB r w P w2):=HSB1.out.next hk2 hr HNP.out
  have cl:∃R0,R=atL LN R0∧Calls Tryz.prog 166 #[.pointer (some ⟨r,0,none⟩)] w2 (Z0 r g w2 R0):=by
   obtain ⟨t1,us1,rfl⟩:=hE1.cons;cases us1 with
   | nil =>
    have hk0:t1.k=0:=hE1;refine ⟨.error t1.at0,?_,zfS r g _ _ t1 w2 h2' (by omega)⟩
    simp only [Yg,zI,zq,if_neg (show ¬ t1.k=1 by omega),Option.some.injEq] at hp
    rw [←hp];rfl
   | cons t2 us2 =>
    obtain ⟨res,hR,hres⟩:=zgX hp;refine ⟨zaw t1 t2 res,hR,?_⟩
    by_cases hc:t1.k=1∧zn t2 [61]=true
    ·have hb:=hres hc.1 hc.2
     have hE3:zj us2:=(hE1.tail (by omega)).tail (zl hc.2)
     exact zhh r g _ _ t1 t2 us2 w2 res h2' hE1 (fun l us e=>by subst e;exact (ZF F).1 _ _ _ _ hb hE3) fun _ _ w3 o3 cap3 hR3 hK3=>HEX.out w3 o3 cap3 us2 res hb hE3 hR3 (HSB2.out.k.trans hK3)
    ·have e9:zaw t1 t2 res=zaw t1 t2 (.error 0):=by
      unfold zaw
      by_cases h1:t1.k=1
      ·rw [if_pos h1,if_pos h1,if_neg (fun h9=>hc ⟨h1,h9⟩),if_neg (fun h9=>hc ⟨h1,h9⟩)]
      ·rw [if_neg h1,if_neg h1]
     rw [e9];exact zhh r g _ _ t1 t2 us2 w2 (.error 0) h2' hE1 (fun l us e=>by cases e) fun h1 h9=>absurd ⟨h1,h9⟩ hc
  obtain ⟨R0,rfl,cl⟩:=cl;clear hk2 h2 h2' hp hE1;go_wp2_with fail
  refine cl.mono ?_;clear cl;rintro e w3 ⟨hk3,hpost⟩;have HSB3:Hid (SB r w P w3):=HSB2.out.next hk3 hr HNP.out;rcases R0 with a | ⟨x,us⟩
  ·obtain rfl:=hpost
   exact ⟨rfl,HSB3.out.k,rfl⟩
  ·obtain ⟨v,o3,cap3,rfl,hx,hrd3⟩:=hpost
   obtain ⟨qa,qb,e0,e1,e2,b0,b1,b2,l0,l1,l2,qc,rfl⟩:=hx.agg;have HX:Hid (yS (fun k=>w2.heap.size≤k) w3 x (.agg #[.int .i64 qa,.string qb,.slice e0 e1 e2,.slice b0 b1 b2,.slice l0 l1 l2,.int .i64 qc])):=hx
   have HRD:Hid (zh r g o3 cap3 us w3):=hrd3;have hlt:=HSB2.out.lt;have hnp:=HNP.out;obtain ⟨m0,m1,m2,m3,m4,m5,mf⟩:=zp HSB3.out.p;obtain ⟨wS,hwS⟩:∃wS,wS=(((((((((((w3.setCell ⟨P,0,none⟩ (.int .i64 qa))).setCell ⟨P,1,none⟩ (.string qb))).setCell ⟨P,2,none⟩ (.slice e0 e1 e2))).setCell ⟨P,3,none⟩ (.slice b0 b1 b2))).setCell ⟨P,4,none⟩ (.slice l0 l1 l2))).setCell ⟨P,5,none⟩ (.int .i64 qc)):=⟨_,rfl⟩;have pS:wS.heap[P]?=some (vC qa qb (.slice e0 e1 e2) (.slice b0 b1 b2) (.slice l0 l1 l2) qc):=by rw [hwS];exact zP HSB3.out.p (.int .i64 qa) (.string qb) (.slice e0 e1 e2) (.slice b0 b1 b2) (.slice l0 l1 l2) (.int .i64 qc)
   have sS:∀k,k≠P→wS.heap[k]?=w3.heap[k]?:=fun k hk=>by rw [hwS];exact Yc w3 P (.int .i64 qa) (.string qb) (.slice e0 e1 e2) (.slice b0 b1 b2) (.slice l0 l1 l2) (.int .i64 qc) hk
   have kS:zc r w wS:=by rw [hwS];exact xD HSB3.out.k (Nat.le_of_lt hnp) _ _ _ _ _ _
   have zS:wS.heap.size=w3.heap.size:=by rw [hwS];simp
   obtain ⟨-,-,-,-,-,s5,sf⟩:=zp pS;have sf5:=sf 5;obtain ⟨wL,hwL⟩:∃wL,wL=wS.setCell ⟨P,5,none⟩ (.int .i64 (LN:Int)):=⟨_,rfl⟩;have pL:wL.heap[P]?=some (vC qa qb (.slice e0 e1 e2) (.slice b0 b1 b2) (.slice l0 l1 l2) (LN:Int)):=by rw [hwL];exact zm _ pS
   have sL:∀k,k≠P→wL.heap[k]?=w3.heap[k]?:=fun k hk=>by rw [hwL,Below.heap_setCell _ _ _ _ (by simpa using hk)];exact sS k hk
   have kL:zc r w wL:=by rw [hwL];exact kS.setOther (by simp;omega) _
   have zL:wL.heap.size=w3.heap.size:=by rw [hwL];simpa using zS
   have nL:wL.heap[w.heap.size]?=some YR:=(sL _ (by omega)).trans HSB3.out.n
   have HP:Hid (Z0 r g w (.ok (x.at LN,us)) (.returned (.agg #[.int .i64 qa,.string qb,.slice e0 e1 e2,.slice b0 b1 b2,.slice l0 l1 l2,.int .i64 (LN:Int)])) (Yu wL w.heap.size (.int .i64 qa) (.string qb) (.slice e0 e1 e2) (.slice b0 b1 b2) (.slice l0 l1 l2) (.int .i64 (LN:Int)))):=Z0.lined LN HX.out kL zL sL hlt hnp hr hgw HRD.out;obtain ⟨x0,x1,x2,x3,x4,x5,-⟩:=zp pL;obtain ⟨y0,y1,y2,y3,y4,y5,yf⟩:=zp nL;obtain ⟨z0,z1,z2,z3,z4,z5,-⟩:=zp (zP nL (.int .i64 qa) (.string qb) (.slice e0 e1 e2) (.slice b0 b1 b2) (.slice l0 l1 l2) (.int .i64 (LN:Int)));have HWS:Hid (wS=(((((((((((w3.setCell ⟨P,0,none⟩ (.int .i64 qa))).setCell ⟨P,1,none⟩ (.string qb))).setCell ⟨P,2,none⟩ (.slice e0 e1 e2))).setCell ⟨P,3,none⟩ (.slice b0 b1 b2))).setCell ⟨P,4,none⟩ (.slice l0 l1 l2))).setCell ⟨P,5,none⟩ (.int .i64 qc))):=hwS;have hwL':=hwL.symm;clear hx hrd3 hk3 hwS hwL pS sS kS zS sf pL sL kL zL nL HX HRD
   go_upto_region 13 with fail
   rw [←HWS.out];clear HWS m0 m1 m2 m3 m4 m5 mf;go_wp2
   exact bodyPost_ret (v:=.agg #[.int .i64 qa,.string qb,.slice e0 e1 e2,.slice b0 b1 b2,.slice l0 l1 l2,.int .i64 (LN:Int)]) (by simp [results,Tryz.results136,go_sem,z0,z1,z2,z3,z4,z5]) rfl HP.out
 ·have i1':zn t0 [108,101,116]=false:=by simpa using i1
  rw [i1'] at c1;rw [if_neg i1] at hp;go_wp2_with fail
  refine c1.mono ?_;clear c1;rintro e w2 ⟨rfl,hk2,h2⟩;have h2':zh r g o cap (t0::ts0) w2:=by simpa using h2
  have HSB2:Hid (SB r w P w2):=HSB1.out.next hk2 hr HNP.out;have c2:=ZL r g o cap t0 ts0 [105,102] w2 h2' (fun hi=>(hE.tail (zl hi)).ne)
  clear hk2 h2 h2'
  by_cases i2:zn t0 [105,102]=true
  ·rw [i2] at c2
   rw [if_pos i2] at hp;have hE1:=hE.tail (zl i2);go_wp2_with fail
   refine c2.mono ?_;clear c2;rintro e w3 ⟨rfl,hk3,h3⟩;have h3':zh r g (o+5) (cap-1) ts0 w3:=by simpa using h3
   have HSB3:Hid (SB r w P w3):=HSB2.out.next hk3 hr HNP.out
   have cl:∃R0,R=atL LN R0∧Calls Tryz.prog 167 #[.pointer (some ⟨r,0,none⟩)] w3 (Z0 r g w3 R0):=by
    obtain ⟨R0,h9,h8⟩:=zcI F ts0 LN hp;exact ⟨R0,h8.symm,zfC r g _ _ F ts0 w3 R0 h3' hE1 h9 (fun w1 o1 cap1 ts1 r1 hb hE1 hR hK=>HEX.out w1 o1 cap1 ts1 r1 hb hE1 hR (HSB3.out.k.trans hK)) (fun w1 o1 cap1 ts1 r1 hb hE1 hR hK=>HBL.out w1 o1 cap1 ts1 r1 hb hE1 hR (HSB3.out.k.trans hK))⟩
   obtain ⟨R0,rfl,cl⟩:=cl;clear hk3 h3 h3' hp hE1;go_wp2_with fail
   refine cl.mono ?_;clear cl;rintro e w4 ⟨hk4,hpost⟩;have HSB4:Hid (SB r w P w4):=HSB3.out.next hk4 hr HNP.out;rcases R0 with a | ⟨x,us⟩
   ·obtain rfl:=hpost
    exact ⟨rfl,HSB4.out.k,rfl⟩
   ·obtain ⟨v,o4,cap4,rfl,hx,hrd4⟩:=hpost
    obtain ⟨qa,qb,e0,e1,e2,b0,b1,b2,l0,l1,l2,qc,rfl⟩:=hx.agg;have HX:Hid (yS (fun k=>w3.heap.size≤k) w4 x (.agg #[.int .i64 qa,.string qb,.slice e0 e1 e2,.slice b0 b1 b2,.slice l0 l1 l2,.int .i64 qc])):=hx
    have HRD:Hid (zh r g o4 cap4 us w4):=hrd4;have hlt:=HSB3.out.lt;have hnp:=HNP.out;obtain ⟨m0,m1,m2,m3,m4,m5,mf⟩:=zp HSB4.out.p;obtain ⟨wS,hwS⟩:∃wS,wS=(((((((((((w4.setCell ⟨P,0,none⟩ (.int .i64 qa))).setCell ⟨P,1,none⟩ (.string qb))).setCell ⟨P,2,none⟩ (.slice e0 e1 e2))).setCell ⟨P,3,none⟩ (.slice b0 b1 b2))).setCell ⟨P,4,none⟩ (.slice l0 l1 l2))).setCell ⟨P,5,none⟩ (.int .i64 qc)):=⟨_,rfl⟩;have pS:wS.heap[P]?=some (vC qa qb (.slice e0 e1 e2) (.slice b0 b1 b2) (.slice l0 l1 l2) qc):=by rw [hwS];exact zP HSB4.out.p (.int .i64 qa) (.string qb) (.slice e0 e1 e2) (.slice b0 b1 b2) (.slice l0 l1 l2) (.int .i64 qc)
    have sS:∀k,k≠P→wS.heap[k]?=w4.heap[k]?:=fun k hk=>by rw [hwS];exact Yc w4 P (.int .i64 qa) (.string qb) (.slice e0 e1 e2) (.slice b0 b1 b2) (.slice l0 l1 l2) (.int .i64 qc) hk
    have kS:zc r w wS:=by rw [hwS];exact xD HSB4.out.k (Nat.le_of_lt hnp) _ _ _ _ _ _
    have zS:wS.heap.size=w4.heap.size:=by rw [hwS];simp
    obtain ⟨-,-,-,-,-,s5,sf⟩:=zp pS;have sf5:=sf 5;obtain ⟨wL,hwL⟩:∃wL,wL=wS.setCell ⟨P,5,none⟩ (.int .i64 (LN:Int)):=⟨_,rfl⟩;have pL:wL.heap[P]?=some (vC qa qb (.slice e0 e1 e2) (.slice b0 b1 b2) (.slice l0 l1 l2) (LN:Int)):=by rw [hwL];exact zm _ pS
    have sL:∀k,k≠P→wL.heap[k]?=w4.heap[k]?:=fun k hk=>by rw [hwL,Below.heap_setCell _ _ _ _ (by simpa using hk)];exact sS k hk
    have kL:zc r w wL:=by rw [hwL];exact kS.setOther (by simp;omega) _
    have zL:wL.heap.size=w4.heap.size:=by rw [hwL];simpa using zS
    have nL:wL.heap[w.heap.size]?=some YR:=(sL _ (by omega)).trans HSB4.out.n
    have HP:Hid (Z0 r g w (.ok (x.at LN,us)) (.returned (.agg #[.int .i64 qa,.string qb,.slice e0 e1 e2,.slice b0 b1 b2,.slice l0 l1 l2,.int .i64 (LN:Int)])) (Yu wL w.heap.size (.int .i64 qa) (.string qb) (.slice e0 e1 e2) (.slice b0 b1 b2) (.slice l0 l1 l2) (.int .i64 (LN:Int)))):=Z0.lined LN HX.out kL zL sL hlt hnp hr hgw HRD.out;obtain ⟨x0,x1,x2,x3,x4,x5,-⟩:=zp pL;obtain ⟨y0,y1,y2,y3,y4,y5,yf⟩:=zp nL;obtain ⟨z0,z1,z2,z3,z4,z5,-⟩:=zp (zP nL (.int .i64 qa) (.string qb) (.slice e0 e1 e2) (.slice b0 b1 b2) (.slice l0 l1 l2) (.int .i64 (LN:Int)));have HWS:Hid (wS=(((((((((((w4.setCell ⟨P,0,none⟩ (.int .i64 qa))).setCell ⟨P,1,none⟩ (.string qb))).setCell ⟨P,2,none⟩ (.slice e0 e1 e2))).setCell ⟨P,3,none⟩ (.slice b0 b1 b2))).setCell ⟨P,4,none⟩ (.slice l0 l1 l2))).setCell ⟨P,5,none⟩ (.int .i64 qc))):=hwS;have hwL':=hwL.symm;clear hx hrd4 hk4 hwS hwL pS sS kS zS sf pL sL kL zL nL HX HRD
    go_upto_region 13 with fail
    rw [←HWS.out];clear HWS m0 m1 m2 m3 m4 m5 mf;go_wp2
    exact bodyPost_ret (v:=.agg #[.int .i64 qa,.string qb,.slice e0 e1 e2,.slice b0 b1 b2,.slice l0 l1 l2,.int .i64 (LN:Int)]) (by simp [results,Tryz.results136,go_sem,z0,z1,z2,z3,z4,z5]) rfl HP.out
  ·have i2':zn t0 [105,102]=false:=by simpa using i2
   rw [i2'] at c2;rw [if_neg i2] at hp;go_wp2_with fail
   refine c2.mono ?_;clear c2;rintro e w3 ⟨rfl,hk3,h3⟩;have h3':zh r g o cap (t0::ts0) w3:=by simpa using h3
   have HSB3:Hid (SB r w P w3):=HSB2.out.next hk3 hr HNP.out;have c3:=ZL r g o cap t0 ts0 [119,104,105,108,101] w3 h3' (fun hi=>(hE.tail (zl hi)).ne)
   clear hk3 h3 h3'
   by_cases i3:zn t0 [119,104,105,108,101]=true
   ·rw [i3] at c3
    rw [if_pos i3] at hp;have hE1:=hE.tail (zl i3);go_wp2_with fail
    refine c3.mono ?_;clear c3;rintro e w4 ⟨rfl,hk4,h4⟩;have h4':zh r g (o+5) (cap-1) ts0 w4:=by simpa using h4
    have HSB4:Hid (SB r w P w4):=HSB3.out.next hk4 hr HNP.out;cases hb1:zk F 1 ts0 with
    | none=>rw [hb1] at hp;cases hp
    | some r1 =>
     rw [hb1] at hp;have ce:=HEX.out w4 _ _ ts0 r1 hb1 hE1 h4' HSB4.out.k;clear h4 h4' hk4;go_wp2_with fail
     refine ce.mono ?_;clear ce;rintro e w5 ⟨hk5,hpost⟩;have HSB5:Hid (SB r w P w5):=HSB4.out.next hk5 hr HNP.out;rcases r1 with a | ⟨x,us⟩
     ·obtain rfl:=hpost
      simp only [zq,Option.some.injEq] at hp;subst hp;exact ⟨rfl,HSB5.out.k,rfl⟩
     ·obtain ⟨v,o5,cap5,rfl,hx,hrd5⟩:=hpost
      obtain ⟨xa,xb,xc,x0,x1,x2,xl,rfl⟩:=hx.agg;have hE2:=(ZF F).1 _ _ _ _ hb1 hE1;simp only [zq] at hp;cases hb2:zU F us with
      | none=>rw [hb2] at hp;cases hp
      | some r2 =>
       rw [hb2] at hp;obtain ⟨wA,hwA⟩:∃wA,wA=w5.alloc (exO xa xb xc (.slice x0 x1 x2) xl):=⟨_,rfl⟩;have HSBA:Hid (SB r w P wA):=by rw [hwA];exact HSB5.out.next ((zc.refl r w5).alloc _) hr HNP.out
       have hlt5:=HSB5.out.lt;have hrowA:=zv.one (S:=fun k=>w4.heap.size≤k) 45 (c:=[.int .i64 xa,.string xb,.int .i64 xc,.slice x0 x1 x2,.int .i64 xl]) hx rfl hk5.size
       have hzA:wA.heap.size=w5.heap.size+1:=by rw [hwA];simp
       have hlt4:=HSB4.out.lt;have hnp:=HNP.out;obtain ⟨t2,us2,rfl⟩:=hE2.cons;have hrdA:zh r g o5 cap5 (t2::us2) wA:=by rw [hwA];exact hrd5.alloc _
       obtain ⟨m0,m1,m2,m3,m4,m5,mf⟩:=zp HSBA.out.p;obtain ⟨wS,hwS⟩:∃wS,wS=(((((((((((wA.setCell ⟨P,0,none⟩ (.int .i64 5))).setCell ⟨P,1,none⟩ (.string ⟨#[]⟩))).setCell ⟨P,2,none⟩ (.slice (some ⟨w5.heap.size,0,none⟩) 1 1))).setCell ⟨P,3,none⟩ (.slice none 0 0))).setCell ⟨P,4,none⟩ (.slice none 0 0))).setCell ⟨P,5,none⟩ (.int .i64 0)):=⟨_,rfl⟩;have pS:wS.heap[P]?=some (vC 5 ⟨#[]⟩ (.slice (some ⟨w5.heap.size,0,none⟩) 1 1) (.slice none 0 0) (.slice none 0 0) 0):=by rw [hwS];exact zP HSBA.out.p (.int .i64 5) (.string ⟨#[]⟩) (.slice (some ⟨w5.heap.size,0,none⟩) 1 1) (.slice none 0 0) (.slice none 0 0) (.int .i64 0)
       have sS:∀k,k≠P→wS.heap[k]?=wA.heap[k]?:=fun k hk=>by rw [hwS];exact Yc wA P (.int .i64 5) (.string ⟨#[]⟩) (.slice (some ⟨w5.heap.size,0,none⟩) 1 1) (.slice none 0 0) (.slice none 0 0) (.int .i64 0) hk
       have kS:zc r w wS:=by rw [hwS];exact xD HSBA.out.k (Nat.le_of_lt hnp) _ _ _ _ _ _
       have zS:wS.heap.size=wA.heap.size:=by rw [hwS];simp
       have hrdS:zh r g o5 cap5 (t2::us2) wS:=hrdA.keep (sS r (by omega)) (sS g (by omega))
       have hrowS:zv (fun k=>w4.heap.size≤k) wS [x] (.slice (some ⟨w5.heap.size,0,none⟩) 1 1):=by
        have h9:zv (fun k=>w4.heap.size≤k) wA [x] (.slice (some ⟨w5.heap.size,0,none⟩) 1 1):=by rw [hwA];exact hrowA
        exact h9.kept (by omega) fun k hk _=>sS k (by omega)
       have cb:=HBL.out wS o5 cap5 (t2::us2) r2 hb2 hE2 hrdS kS;have HWA:Hid (wA=w5.alloc (exO xa xb xc (.slice x0 x1 x2) xl)):=hwA;have HWS:Hid (wS=(((((((((((wA.setCell ⟨P,0,none⟩ (.int .i64 5))).setCell ⟨P,1,none⟩ (.string ⟨#[]⟩))).setCell ⟨P,2,none⟩ (.slice (some ⟨w5.heap.size,0,none⟩) 1 1))).setCell ⟨P,3,none⟩ (.slice none 0 0))).setCell ⟨P,4,none⟩ (.slice none 0 0))).setCell ⟨P,5,none⟩ (.int .i64 0))):=hwS;have HPS:Hid (wS.heap[P]?=some (vC 5 ⟨#[]⟩ (.slice (some ⟨w5.heap.size,0,none⟩) 1 1) (.slice none 0 0) (.slice none 0 0) 0)):=pS;have HNS:Hid (wS.heap[w.heap.size]?=some YR):=(sS _ (by omega)).trans HSBA.out.n
       have HKS:Hid (zc r w wS):=kS;have HROWS:Hid (zv (fun k=>w4.heap.size≤k) wS [x] (.slice (some ⟨w5.heap.size,0,none⟩) 1 1)):=hrowS
       have HZ:Hid (P<w4.heap.size∧w4.heap.size≤wS.heap.size):=⟨hlt4,by have:=hk5.size;omega⟩
       have hwA':=hwA.symm;clear hx hrd5 hrdA hrdS hrowA hrowS hzA hwA hwS pS sS kS zS hk5 hlt4 hlt5
       go_upto_region 10 with fail
       rw [←HWS.out];clear HWS m0 m1 m2 m3 m4 m5 mf hwA';go_wp2_with fail
       refine cb.mono ?_;clear cb;rintro e w6 ⟨hk6,hpost⟩;rcases r2 with a | ⟨bl,us3⟩
       ·obtain rfl:=hpost
        simp only [Option.some.injEq] at hp;subst hp;exact ⟨rfl,HKS.out.trans hk6,rfl⟩
       ·obtain ⟨vb,o6,cap6,rfl,hbs,hrd6⟩:=hpost
        simp only [Option.some.injEq] at hp;subst hp;obtain ⟨c0,c1,c2,rfl⟩:=hbs.slice;have hz:=HZ.out;have hPl:P<wS.heap.size:=(Array.getElem?_eq_some_iff.1 HPS.out).1;have hNl:w.heap.size<wS.heap.size:=(Array.getElem?_eq_some_iff.1 HNS.out).1;have p6:=(hk6.block P hPl (by omega)).trans HPS.out
        have n6:=(hk6.block w.heap.size hNl (by omega)).trans HNS.out
        have k6:zc r w w6:=HKS.out.trans hk6;obtain ⟨-,-,-,g3,-,-,gf⟩:=zp p6;have gf3:=gf 3;obtain ⟨wB,hwB⟩:∃wB,wB=w6.setCell ⟨P,3,none⟩ (.slice c0 c1 c2):=⟨_,rfl⟩;have pB:wB.heap[P]?=some (vC 5 ⟨#[]⟩ (.slice (some ⟨w5.heap.size,0,none⟩) 1 1) (.slice c0 c1 c2) (.slice none 0 0) 0):=by rw [hwB];exact zm _ p6
        have sB:∀k,k≠P→wB.heap[k]?=w6.heap[k]?:=fun k hk=>by rw [hwB];exact Below.heap_setCell _ _ _ _ (by simpa using hk)
        have kB:zc r w wB:=by rw [hwB];exact k6.setOther (by simp;omega) _
        have zB:wB.heap.size=w6.heap.size:=by rw [hwB];simp
        obtain ⟨-,-,-,-,-,s5,sf⟩:=zp pB;have sf5:=sf 5;obtain ⟨wL,hwL⟩:∃wL,wL=wB.setCell ⟨P,5,none⟩ (.int .i64 (LN:Int)):=⟨_,rfl⟩;have pL:wL.heap[P]?=some (vC 5 ⟨#[]⟩ (.slice (some ⟨w5.heap.size,0,none⟩) 1 1) (.slice c0 c1 c2) (.slice none 0 0) (LN:Int)):=by rw [hwL];exact zm _ pB
        have sL:∀k,k≠P→wL.heap[k]?=w6.heap[k]?:=fun k hk=>by rw [hwL,Below.heap_setCell _ _ _ _ (by simpa using hk)];exact sB k hk
        have kL:zc r w wL:=by rw [hwL];exact kB.setOther (by simp;omega) _
        have zL:wL.heap.size=w6.heap.size:=by rw [hwL];simpa using zB
        have nL:wL.heap[w.heap.size]?=some YR:=(sL _ (by omega)).trans n6
        have hrowL:zv (fun k=>w4.heap.size≤k) wL [x] (.slice (some ⟨w5.heap.size,0,none⟩) 1 1):=(HROWS.out.keptR hk6 fun k hk=>by omega).kept (by omega) fun k hk _=>sL k (by omega)
        have hbsL:zD (fun k=>w4.heap.size≤k) wL bl (.slice c0 c1 c2):=(hbs.kept (w':=wL) (by omega) fun k hk _=>sL k (by omega)).wide fun k hk=>by omega
        have HP:Hid (Z0 r g w (.ok (.mk 5 [] [x] bl [] LN,us3)) (.returned (.agg #[.int .i64 5,.string ⟨#[]⟩,.slice (some ⟨w5.heap.size,0,none⟩) 1 1,.slice c0 c1 c2,.slice none 0 0,.int .i64 (LN:Int)])) (Yu wL w.heap.size (.int .i64 5) (.string ⟨#[]⟩) (.slice (some ⟨w5.heap.size,0,none⟩) 1 1) (.slice c0 c1 c2) (.slice none 0 0) (.int .i64 (LN:Int)))) :=
         Z0.of_set6 (B:=w4.heap.size) 5 [] LN kL (Nat.le_refl _) hr hgw hrowL hbsL (zD.nil _ _) (by omega) (hrd6.keep (sL r (by omega)) (sL g (by omega)))
        obtain ⟨x0',x1',x2',x3',x4',x5',-⟩:=zp pL;obtain ⟨y0,y1,y2,y3,y4,y5,yf⟩:=zp nL;obtain ⟨z0,z1,z2,z3,z4,z5,-⟩:=zp (zP nL (.int .i64 5) (.string ⟨#[]⟩) (.slice (some ⟨w5.heap.size,0,none⟩) 1 1) (.slice c0 c1 c2) (.slice none 0 0) (.int .i64 (LN:Int)));have hwB':=hwB.symm;have hwL':=hwL.symm;clear hwB hwL pB sB kB zB sf gf pL sL kL zL nL hrowL hbsL p6 n6 k6 hz hPl hNl hbs hrd6 hk6 HPS HNS HKS HROWS HZ;go_wp2
        exact bodyPost_ret (v:=.agg #[.int .i64 5,.string ⟨#[]⟩,.slice (some ⟨w5.heap.size,0,none⟩) 1 1,.slice c0 c1 c2,.slice none 0 0,.int .i64 (LN:Int)]) (by simp [results,Tryz.results136,go_sem,z0,z1,z2,z3,z4,z5]) rfl HP.out
   ·have i3':zn t0 [119,104,105,108,101]=false:=by simpa using i3
    rw [i3'] at c3;rw [if_neg i3] at hp;go_wp2_with fail
    refine c3.mono ?_;clear c3;rintro e w4 ⟨rfl,hk4,h4⟩;have h4':zh r g o cap (t0::ts0) w4:=by simpa using h4
    have HSB4:Hid (SB r w P w4):=HSB3.out.next hk4 hr HNP.out;have c4:=ZL r g o cap t0 ts0 [114,101,116,117,114,110] w4 h4' (fun hi=>(hE.tail (zl hi)).ne)
    clear hk4 h4 h4'
    by_cases i4:zn t0 [114,101,116,117,114,110]=true
    ·rw [i4] at c4
     rw [if_pos i4] at hp;have hE1:=hE.tail (zl i4);go_wp2_with fail
     refine c4.mono ?_;clear c4;rintro e w5 ⟨rfl,hk5,h5⟩;have h5':zh r g (o+5) (cap-1) ts0 w5:=by simpa using h5
     have HSB5:Hid (SB r w P w5):=HSB4.out.next hk5 hr HNP.out
     have cl:∃R0,R=atL LN R0∧Calls Tryz.prog 168 #[.pointer (some ⟨r,0,none⟩)] w5 (Z0 r g w5 R0):=by
      obtain ⟨t1,us1,rfl⟩:=hE1.cons;obtain ⟨res,hR,hres⟩:=zcT hp;refine ⟨xZ t1 us1 res,hR,?_⟩
      by_cases hc:zn t1 [59]=false
      ·have hb:=hres hc
       exact zbs r g _ _ t1 us1 w5 res h5' hE1 (fun l us e=>by subst e;exact (ZF F).1 _ _ _ _ hb hE1) fun _ w1 o1 cap1 hR1 hK1=>HEX.out w1 o1 cap1 (t1::us1) res hb hE1 hR1 (HSB5.out.k.trans hK1)
      ·have e9:xZ t1 us1 res=xZ t1 us1 (.error 0):=by
        unfold xZ
        rw [if_pos (by simpa using hc),if_pos (by simpa using hc)]
       rw [e9];exact zbs r g _ _ t1 us1 w5 (.error 0) h5' hE1 (fun l us e=>by cases e) fun h9=>absurd h9 hc
     obtain ⟨R0,rfl,cl⟩:=cl;clear hk5 h5 h5' hp hE1;go_wp2_with fail
     refine cl.mono ?_;clear cl;rintro e w6 ⟨hk6,hpost⟩;have HSB6:Hid (SB r w P w6):=HSB5.out.next hk6 hr HNP.out;rcases R0 with a | ⟨x,us⟩
     ·obtain rfl:=hpost
      exact ⟨rfl,HSB6.out.k,rfl⟩
     ·obtain ⟨v,o6,cap6,rfl,hx,hrd6⟩:=hpost
      obtain ⟨qa,qb,e0,e1,e2,b0,b1,b2,l0,l1,l2,qc,rfl⟩:=hx.agg;have HX:Hid (yS (fun k=>w5.heap.size≤k) w6 x (.agg #[.int .i64 qa,.string qb,.slice e0 e1 e2,.slice b0 b1 b2,.slice l0 l1 l2,.int .i64 qc])):=hx
      have HRD:Hid (zh r g o6 cap6 us w6):=hrd6;have hlt:=HSB5.out.lt;have hnp:=HNP.out;obtain ⟨m0,m1,m2,m3,m4,m5,mf⟩:=zp HSB6.out.p;obtain ⟨wS,hwS⟩:∃wS,wS=(((((((((((w6.setCell ⟨P,0,none⟩ (.int .i64 qa))).setCell ⟨P,1,none⟩ (.string qb))).setCell ⟨P,2,none⟩ (.slice e0 e1 e2))).setCell ⟨P,3,none⟩ (.slice b0 b1 b2))).setCell ⟨P,4,none⟩ (.slice l0 l1 l2))).setCell ⟨P,5,none⟩ (.int .i64 qc)):=⟨_,rfl⟩;have pS:wS.heap[P]?=some (vC qa qb (.slice e0 e1 e2) (.slice b0 b1 b2) (.slice l0 l1 l2) qc):=by rw [hwS];exact zP HSB6.out.p (.int .i64 qa) (.string qb) (.slice e0 e1 e2) (.slice b0 b1 b2) (.slice l0 l1 l2) (.int .i64 qc)
      have sS:∀k,k≠P→wS.heap[k]?=w6.heap[k]?:=fun k hk=>by rw [hwS];exact Yc w6 P (.int .i64 qa) (.string qb) (.slice e0 e1 e2) (.slice b0 b1 b2) (.slice l0 l1 l2) (.int .i64 qc) hk
      have kS:zc r w wS:=by rw [hwS];exact xD HSB6.out.k (Nat.le_of_lt hnp) _ _ _ _ _ _
      have zS:wS.heap.size=w6.heap.size:=by rw [hwS];simp
      obtain ⟨-,-,-,-,-,s5,sf⟩:=zp pS;have sf5:=sf 5;obtain ⟨wL,hwL⟩:∃wL,wL=wS.setCell ⟨P,5,none⟩ (.int .i64 (LN:Int)):=⟨_,rfl⟩;have pL:wL.heap[P]?=some (vC qa qb (.slice e0 e1 e2) (.slice b0 b1 b2) (.slice l0 l1 l2) (LN:Int)):=by rw [hwL];exact zm _ pS
      have sL:∀k,k≠P→wL.heap[k]?=w6.heap[k]?:=fun k hk=>by rw [hwL,Below.heap_setCell _ _ _ _ (by simpa using hk)];exact sS k hk
      have kL:zc r w wL:=by rw [hwL];exact kS.setOther (by simp;omega) _
      have zL:wL.heap.size=w6.heap.size:=by rw [hwL];simpa using zS
      have nL:wL.heap[w.heap.size]?=some YR:=(sL _ (by omega)).trans HSB6.out.n
      have HP:Hid (Z0 r g w (.ok (x.at LN,us)) (.returned (.agg #[.int .i64 qa,.string qb,.slice e0 e1 e2,.slice b0 b1 b2,.slice l0 l1 l2,.int .i64 (LN:Int)])) (Yu wL w.heap.size (.int .i64 qa) (.string qb) (.slice e0 e1 e2) (.slice b0 b1 b2) (.slice l0 l1 l2) (.int .i64 (LN:Int)))):=Z0.lined LN HX.out kL zL sL hlt hnp hr hgw HRD.out;obtain ⟨x0,x1,x2,x3,x4,x5,-⟩:=zp pL;obtain ⟨y0,y1,y2,y3,y4,y5,yf⟩:=zp nL;obtain ⟨z0,z1,z2,z3,z4,z5,-⟩:=zp (zP nL (.int .i64 qa) (.string qb) (.slice e0 e1 e2) (.slice b0 b1 b2) (.slice l0 l1 l2) (.int .i64 (LN:Int)));have HWS:Hid (wS=(((((((((((w6.setCell ⟨P,0,none⟩ (.int .i64 qa))).setCell ⟨P,1,none⟩ (.string qb))).setCell ⟨P,2,none⟩ (.slice e0 e1 e2))).setCell ⟨P,3,none⟩ (.slice b0 b1 b2))).setCell ⟨P,4,none⟩ (.slice l0 l1 l2))).setCell ⟨P,5,none⟩ (.int .i64 qc))):=hwS;have hwL':=hwL.symm;clear hx hrd6 hk6 hwS hwL pS sS kS zS sf pL sL kL zL nL HX HRD
      go_upto_region 13 with fail
      rw [←HWS.out];clear HWS m0 m1 m2 m3 m4 m5 mf;go_wp2
      exact bodyPost_ret (v:=.agg #[.int .i64 qa,.string qb,.slice e0 e1 e2,.slice b0 b1 b2,.slice l0 l1 l2,.int .i64 (LN:Int)]) (by simp [results,Tryz.results136,go_sem,z0,z1,z2,z3,z4,z5]) rfl HP.out
    ·have i4':zn t0 [114,101,116,117,114,110]=false:=by simpa using i4
     rw [i4'] at c4;rw [if_neg i4] at hp;go_wp2_with fail
     refine c4.mono ?_;clear c4;rintro e w5 ⟨rfl,hk5,h5⟩;have h5':zh r g o cap (t0::ts0) w5:=by simpa using h5
     have HSB5:Hid (SB r w P w5):=HSB4.out.next hk5 hr HNP.out
     have cl:∃R0,R=atL LN R0∧Calls Tryz.prog 169 #[.pointer (some ⟨r,0,none⟩)] w5 (Z0 r g w5 R0):=by
      obtain ⟨R0,h9,h8⟩:=zgJ F (t0::ts0) LN hp;exact ⟨R0,h8.symm,zeu r g _ _ F (t0::ts0) w5 R0 h5' hE h9 (fun w1 o1 cap1 ts1 r1 hb hE1 hR hK=>HEX.out w1 o1 cap1 ts1 r1 hb hE1 hR (HSB5.out.k.trans hK))⟩
     obtain ⟨R0,rfl,cl⟩:=cl;clear hk5 h5 h5' hp;go_wp2_with fail
     refine cl.mono ?_;clear cl;rintro e w6 ⟨hk6,hpost⟩;have HSB6:Hid (SB r w P w6):=HSB5.out.next hk6 hr HNP.out;rcases R0 with a | ⟨x,us⟩
     ·obtain rfl:=hpost
      exact ⟨rfl,HSB6.out.k,rfl⟩
     ·obtain ⟨v,o6,cap6,rfl,hx,hrd6⟩:=hpost
      obtain ⟨qa,qb,e0,e1,e2,b0,b1,b2,l0,l1,l2,qc,rfl⟩:=hx.agg;have HX:Hid (yS (fun k=>w5.heap.size≤k) w6 x (.agg #[.int .i64 qa,.string qb,.slice e0 e1 e2,.slice b0 b1 b2,.slice l0 l1 l2,.int .i64 qc])):=hx
      have HRD:Hid (zh r g o6 cap6 us w6):=hrd6;have hlt:=HSB5.out.lt;have hnp:=HNP.out;obtain ⟨m0,m1,m2,m3,m4,m5,mf⟩:=zp HSB6.out.p;obtain ⟨wS,hwS⟩:∃wS,wS=(((((((((((w6.setCell ⟨P,0,none⟩ (.int .i64 qa))).setCell ⟨P,1,none⟩ (.string qb))).setCell ⟨P,2,none⟩ (.slice e0 e1 e2))).setCell ⟨P,3,none⟩ (.slice b0 b1 b2))).setCell ⟨P,4,none⟩ (.slice l0 l1 l2))).setCell ⟨P,5,none⟩ (.int .i64 qc)):=⟨_,rfl⟩;have pS:wS.heap[P]?=some (vC qa qb (.slice e0 e1 e2) (.slice b0 b1 b2) (.slice l0 l1 l2) qc):=by rw [hwS];exact zP HSB6.out.p (.int .i64 qa) (.string qb) (.slice e0 e1 e2) (.slice b0 b1 b2) (.slice l0 l1 l2) (.int .i64 qc)
      have sS:∀k,k≠P→wS.heap[k]?=w6.heap[k]?:=fun k hk=>by rw [hwS];exact Yc w6 P (.int .i64 qa) (.string qb) (.slice e0 e1 e2) (.slice b0 b1 b2) (.slice l0 l1 l2) (.int .i64 qc) hk
      have kS:zc r w wS:=by rw [hwS];exact xD HSB6.out.k (Nat.le_of_lt hnp) _ _ _ _ _ _
      have zS:wS.heap.size=w6.heap.size:=by rw [hwS];simp
      obtain ⟨-,-,-,-,-,s5,sf⟩:=zp pS;have sf5:=sf 5;obtain ⟨wL,hwL⟩:∃wL,wL=wS.setCell ⟨P,5,none⟩ (.int .i64 (LN:Int)):=⟨_,rfl⟩;have pL:wL.heap[P]?=some (vC qa qb (.slice e0 e1 e2) (.slice b0 b1 b2) (.slice l0 l1 l2) (LN:Int)):=by rw [hwL];exact zm _ pS
      have sL:∀k,k≠P→wL.heap[k]?=w6.heap[k]?:=fun k hk=>by rw [hwL,Below.heap_setCell _ _ _ _ (by simpa using hk)];exact sS k hk
      have kL:zc r w wL:=by rw [hwL];exact kS.setOther (by simp;omega) _
      have zL:wL.heap.size=w6.heap.size:=by rw [hwL];simpa using zS
      have nL:wL.heap[w.heap.size]?=some YR:=(sL _ (by omega)).trans HSB6.out.n
      have HP:Hid (Z0 r g w (.ok (x.at LN,us)) (.returned (.agg #[.int .i64 qa,.string qb,.slice e0 e1 e2,.slice b0 b1 b2,.slice l0 l1 l2,.int .i64 (LN:Int)])) (Yu wL w.heap.size (.int .i64 qa) (.string qb) (.slice e0 e1 e2) (.slice b0 b1 b2) (.slice l0 l1 l2) (.int .i64 (LN:Int)))):=Z0.lined LN HX.out kL zL sL hlt hnp hr hgw HRD.out;obtain ⟨x0,x1,x2,x3,x4,x5,-⟩:=zp pL;obtain ⟨y0,y1,y2,y3,y4,y5,yf⟩:=zp nL;obtain ⟨z0,z1,z2,z3,z4,z5,-⟩:=zp (zP nL (.int .i64 qa) (.string qb) (.slice e0 e1 e2) (.slice b0 b1 b2) (.slice l0 l1 l2) (.int .i64 (LN:Int)));have HWS:Hid (wS=(((((((((((w6.setCell ⟨P,0,none⟩ (.int .i64 qa))).setCell ⟨P,1,none⟩ (.string qb))).setCell ⟨P,2,none⟩ (.slice e0 e1 e2))).setCell ⟨P,3,none⟩ (.slice b0 b1 b2))).setCell ⟨P,4,none⟩ (.slice l0 l1 l2))).setCell ⟨P,5,none⟩ (.int .i64 qc))):=hwS;have hwL':=hwL.symm;clear hx hrd6 hk6 hwS hwL pS sS kS zS sf pL sL kL zL nL HX HRD
      go_upto_region 13 with fail
      rw [←HWS.out];clear HWS m0 m1 m2 m3 m4 m5 mf;go_wp2
      exact bodyPost_ret (v:=.agg #[.int .i64 qa,.string qb,.slice e0 e1 e2,.slice b0 b1 b2,.slice l0 l1 l2,.int .i64 (LN:Int)]) (by simp [results,Tryz.results136,go_sem,z0,z1,z2,z3,z4,z5]) rfl HP.out
end Go.Proofs.YtpejpbbdgblbeaaGreatDoor
