import Derived.Test.YtcphojjpapgblaaGreatDoorMC23
import Derived.Test.YtcphojjpapgblaaGreatDoorMC21
namespace Go.Proofs.YtcphojjpapgblaaGreatDoor
open Go.RowKit Go.Shelf
set_option maxHeartbeats 16000000
set_option maxRecDepth 100000
theorem ZF.lined {r g o cap P B:Nat} {w w3 w5:World} {x:St} {us:List Tk} {a:Int} {b:ByteArray} {ve vb vl:Value} {c:Int} (line:Nat) (hx:yo (fun k=>B≤k) w3 x (.agg #[.int .i64 a,.string b,ve,vb,vl,.int .i64 c])) (hK5:zc r w w5) (hsz:w5.heap.size=w3.heap.size) (hsame:∀k,k≠P→w5.heap[k]?=w3.heap[k]?)
  (hPB:P<B) (hNP:w.heap.size<P) (hr:r<w.heap.size) (hg:g<w.heap.size) (hrd:zf r g o cap us w3) :
  ZF r g w (.ok (x.at line,us)) (.returned (.agg #[.int .i64 a,.string b,ve,vb,vl,.int .i64 line])) (XA w5 w.heap.size (.int .i64 a) (.string b) ve vb vl (.int .i64 line)):=by
 cases hx with
 | mk k s es body els l0 _ _ _ gb cb gl cl ub ul he hb hbk hl hlk =>
  have y:w3.heap.size≤w5.heap.size:=by omega
  have h:∀j,B≤j→j<w3.heap.size→w5.heap[j]?=w3.heap[j]?:=fun j hj _=>hsame j (by omega)
  exact ZF.of_set6 (B:=B) k s line hK5 (Nat.le_refl _) hr hg (he.kept y h) (z8.kept (l:=body) (v:=vb) ⟨gb,cb,ub,hb,hbk⟩ y h) (z8.kept (l:=els) (v:=vl) ⟨gl,cl,ul,hl,hlk⟩ y h) (by omega) (hrd.keep (hsame r (by omega)) (hsame g (by omega)))
structure SB (r:Nat) (w:World) (P:Nat) (W:World):Prop where
 k:zc r w W
 n:W.heap[w.heap.size]?=some xw
 p:W.heap[P]?=some xw
theorem SB.next {r P:Nat} {w W W':World} (h:SB r w P W) (hk:zc r W W') (hr:r<w.heap.size) (hP:w.heap.size<P):SB r w P W' :=
 ⟨h.k.trans hk,(hk.block _ (Array.getElem?_eq_some_iff.1 h.n).1 (by omega)).trans h.n,(hk.block _ (Array.getElem?_eq_some_iff.1 h.p).1 (by omega)).trans h.p⟩
theorem SB.lt {r P:Nat} {w W:World} (h:SB r w P W):P<W.heap.size:=(Array.getElem?_eq_some_iff.1 h.p).1
theorem zgY {f line:Nat} {t1 t2:Tk} {us:List Tk} {R:PR St} (h:(zh (Z6 (t1::t2::us)) fun s us=>zh (zR [61] us) fun _ us=>zh (zg f 1 us) fun e us=>zh (zR [59] us) fun _ us=>some (.ok (.mk 1 s [e] [] [] line,us)))=some R) :
  ∃res,R=atL line (Q4 t1 t2 res)∧(t1.k=1→zm t2 [61]=true→zg f 1 us=some res):=by
 unfold Z6 zR at h
 simp only [zC,List.tail_cons] at h
 unfold Q4
 by_cases h1:t1.k=1
 ·simp only [if_pos h1,zh,zC,List.tail_cons] at h
  by_cases h2:zm t2 [61]=true
  ·simp only [if_pos h2] at h
   cases h3:zg f 1 us with
   | none=>rw [h3] at h;cases h
   | some r3 =>
    rw [h3] at h;refine ⟨r3,?_,fun _ _=>rfl⟩
    rw [if_pos h1,if_pos h2];rcases r3 with a | ⟨e,o⟩
    ·simp only [Option.some.injEq] at h
     rw [←h];rfl
    ·simp only at h ⊢
     by_cases h4:zm (zu o) [59]=true
     ·simp only [if_pos h4,Option.some.injEq] at h ⊢
      rw [←h];rfl
     ·simp only [if_neg h4,Option.some.injEq] at h ⊢
      rw [←h];rfl
  ·simp only [if_neg h2,Option.some.injEq] at h
   refine ⟨.error 0,?_,fun _ h9=>absurd h9 h2⟩
   rw [if_pos h1,if_neg h2,←h];rfl
 ·simp only [if_neg h1,zh,Option.some.injEq] at h
  refine ⟨.error 0,?_,fun h9=>absurd h9 h1⟩
  rw [if_neg h1,←h];rfl
theorem zco {f line:Nat} {t1:Tk} {us:List Tk} {R:PR St} (h:(if zm t1 [59]=true then some (.ok (.mk 6 [] [] [] [] line,us)) else zh (zg f 1 (t1::us)) fun e us=>zh (zR [59] us) fun _ us=>some (.ok (.mk 6 [] [e] [] [] line,us)))=some R) :
  ∃res,R=atL line (xd t1 us res)∧(zm t1 [59]=false→zg f 1 (t1::us)=some res):=by
 unfold zR at h
 unfold xd
 by_cases h1:zm t1 [59]=true
 ·simp only [if_pos h1,Option.some.injEq] at h
  refine ⟨.error 0,?_,fun h9=>by rw [h1] at h9;cases h9⟩
  rw [if_pos h1,←h];rfl
 ·simp only [if_neg h1] at h
  cases h3:zg f 1 (t1::us) with
  | none=>rw [h3] at h;cases h
  | some r3 =>
   rw [h3] at h;refine ⟨r3,?_,fun _=>rfl⟩
   rw [if_neg h1];rcases r3 with a | ⟨e,o⟩
   ·simp only [zh,Option.some.injEq] at h
    rw [←h];rfl
   ·simp only [zh] at h ⊢
    by_cases h4:zm (zu o) [59]=true
    ·simp only [if_pos h4,Option.some.injEq] at h ⊢
     rw [←h];rfl
    ·simp only [if_neg h4,Option.some.injEq] at h ⊢
     rw [←h];rfl
theorem zfm (r g o cap:Nat) (t:Tk) (w:World) (h:zf r g o cap [t] w) (hk:t.k≠1):Calls Tryz.prog 164 #[.pointer (some ⟨r,0,none⟩)] w (ZF r g w (.error t.at0)):=by
 obtain ⟨w0,y⟩:∃w0,w0=w.alloc xw:=⟨_,rfl⟩;have G:zf r g o cap [t] w0:=by rw [y];exact h.alloc _
 have H:zc r w w0:=by rw [y];exact (zc.refl r w).alloc _
 have A:=xu r g o cap t [] w0 G (fun h=>absurd h hk)
 have z:Hid (w0=w.alloc xw):=y;clear h G y;simp only [if_neg hk] at A
 go_enter Tryz.func164,Tryz.ntmps164
 go_wp2_with fail
 rw [←z.out];refine A.mono ?_;clear A;rintro e I ⟨D,rfl⟩;exact ⟨rfl,H.trans D,rfl⟩
theorem zbe (r g o cap F:Nat) (ts:List Tk) (w:World) (R:PR St) (h:zf r g o cap ts w) (hE:zi ts) (hp:Zg (F+1) ts=some R)
  (hex:∀w1 o1 cap1 ts1 r1,zg F 1 ts1=some r1→zi ts1→zf r g o1 cap1 ts1 w1→zc r w w1→Calls Tryz.prog 42 #[.pointer (some ⟨r,0,none⟩)] w1 (zJ r g w1 r1))
  (hbl:∀w1 o1 cap1 ts1 r1,zI F ts1=some r1→zi ts1→zf r g o1 cap1 ts1 w1→zc r w w1→Calls Tryz.prog 98 #[.pointer (some ⟨r,0,none⟩)] w1 (XY r g w1 r1)) :
  Calls Tryz.prog 134 #[.pointer (some ⟨r,0,none⟩)] w (ZF r g w R):=by
 obtain ⟨t0,X,rfl⟩:=hE.cons;have hr:=h.lt.1;have aA:=h.lt.2;have hf:=Xu;obtain ⟨w0,ap⟩:∃w0,w0=w.alloc xw:=⟨_,rfl⟩;have h0:zf r g o cap (t0::X) w0:=by rw [ap];exact h.alloc _
 have ch:=Z8 r g o cap t0 X w0 h0;obtain ⟨P,hP⟩:∃P,P=w.heap.size+2:=⟨_,rfl⟩;obtain ⟨w1,ay⟩:∃w1,w1=(w0.alloc (ZL t0)).alloc xw:=⟨_,rfl⟩;have h1:zf r g o cap (t0::X) w1:=by rw [ay];exact (h0.alloc _).alloc _
 have a9:SB r w P w1:=by
  have be:w0.heap.size=w.heap.size+1:=by rw [ap];simp
  refine ⟨by rw [ay,ap];exact (((zc.refl r w).alloc _).alloc _).alloc _,?_,?_⟩
  ·rw [ay,Below.heap_alloc _ _ _ (by simp;omega),Below.heap_alloc _ _ _ (by omega),ap];exact World.alloc_heap_new _ _
  ·have:=World.alloc_heap_new (w0.alloc (ZL t0)) xw
   rw [ay,hP];rw [show (w0.alloc (ZL t0)).heap.size=w.heap.size+2 by simp [be]] at this
   exact this
 have aQ:Hid (SB r w P w1):=a9;have a5:Hid (w0=w.alloc xw):=ap;have a6:Hid (w1=(w0.alloc (ZL t0)).alloc xw):=ay;have Z:Hid (w.heap.size<P):=show _<_ by omega
 have ba:Hid (w0.heap.size+1=P):=by show _=_;rw [ap,hP];simp
 have aI:Hid (∀w1 o1 cap1 ts1 r1,zg F 1 ts1=some r1→zi ts1→zf r g o1 cap1 ts1 w1→zc r w w1→Calls Tryz.prog 42 #[.pointer (some ⟨r,0,none⟩)] w1 (zJ r g w1 r1)):=hex;have a1:Hid (∀w1 o1 cap1 ts1 r1,zI F ts1=some r1→zi ts1→zf r g o1 cap1 ts1 w1→zc r w w1→Calls Tryz.prog 98 #[.pointer (some ⟨r,0,none⟩)] w1 (XY r g w1 r1)):=hbl;rw [Zg] at hp;simp only [zC,List.tail_cons] at hp;have c1:=Zy r g o cap t0 X [108,101,116] w1 h1 (fun hi=>(hE.tail (zk hi)).ne)
 obtain ⟨G,aY⟩:∃G,G=t0.line:=⟨_,rfl⟩;have bc:Hid (G=t0.line):=aY;rw [←aY] at hp;clear h h0 h1 ap ay hP a9 hex hbl aY
 go_enter Tryz.func134,Tryz.ntmps134
 go_wp2_with fail
 rw [←a5.out];refine ch.mono ?_;clear ch;rintro e w' ⟨rfl,he⟩;subst he;simp only [uJ];rw [←bc.out]
 go_upto_region 4 with fail
 rw [←a6.out];rw [ba.out];clear a5 a6 ba hf
 by_cases i1:zm t0 [108,101,116]=true
 ·rw [i1] at c1
  rw [if_pos i1] at hp;have D:=hE.tail (zk i1);go_wp2_with fail
  refine c1.mono ?_;clear c1;rintro e w2 ⟨rfl,aF,h2⟩;have aq:zf r g (o+5) (cap-1) X w2:=by simpa using h2
  have ak:Hid (SB r w P w2):=aQ.out.next aF hr Z.out
  have cl:∃R0,R=atL G R0∧Calls Tryz.prog 164 #[.pointer (some ⟨r,0,none⟩)] w2 (ZF r g w2 R0):=by
   obtain ⟨t1,an,rfl⟩:=D.cons;cases an with
   | nil =>
    have bq:t1.k=0:=D;refine ⟨.error t1.at0,?_,zfm r g _ _ t1 w2 aq (by omega)⟩
    simp only [Z6,zC,zh,if_neg (show ¬ t1.k=1 by omega),Option.some.injEq] at hp
    rw [←hp];rfl
   | cons t2 us2 =>
    obtain ⟨res,hR,aL⟩:=zgY hp;refine ⟨Q4 t1 t2 res,hR,?_⟩
    by_cases hc:t1.k=1∧zm t2 [61]=true
    ·have hb:=aL hc.1 hc.2
     have a4:zi us2:=(D.tail (by omega)).tail (zk hc.2)
     exact zhD r g _ _ t1 t2 us2 w2 res aq D (fun l us e=>by subst e;exact (Ze F).1 _ _ _ _ hb a4) fun _ _ w3 o3 aH hR3 hK3=>aI.out w3 o3 aH us2 res hb a4 hR3 (ak.out.k.trans hK3)
    ·have e9:Q4 t1 t2 res=Q4 t1 t2 (.error 0):=by
      unfold Q4
      by_cases h1:t1.k=1
      ·rw [if_pos h1,if_pos h1,if_neg (fun h9=>hc ⟨h1,h9⟩),if_neg (fun h9=>hc ⟨h1,h9⟩)]
      ·rw [if_neg h1,if_neg h1]
     rw [e9];exact zhD r g _ _ t1 t2 us2 w2 (.error 0) aq D (fun l us e=>by cases e) fun h1 h9=>absurd ⟨h1,h9⟩ hc
  obtain ⟨R0,rfl,cl⟩:=cl;clear aF h2 aq hp D;go_wp2_with fail
  refine cl.mono ?_;clear cl;rintro e w3 ⟨am,y⟩;have Y:Hid (SB r w P w3):=ak.out.next am hr Z.out;rcases R0 with a | ⟨x,us⟩
  ·obtain rfl:=y
   exact ⟨rfl,Y.out.k,rfl⟩
  ·obtain ⟨v,o3,aH,rfl,hx,aO⟩:=y
   obtain ⟨T,L,Q,O,V,H,J,U,W,N,I,qc,rfl⟩:=hx.agg;have HX:Hid (yo (fun k=>w2.heap.size≤k) w3 x (.agg #[.int .i64 T,.string L,.slice Q O V,.slice H J U,.slice W N I,.int .i64 qc])):=hx
   have ai:Hid (zf r g o3 aH us w3):=aO;have ao:=ak.out.lt;have af:=Z.out;obtain ⟨m0,m1,m2,m3,m4,m5,mf⟩:=zM Y.out.p;obtain ⟨wS,z⟩:∃wS,wS=(((((((((((w3.setCell ⟨P,0,none⟩ (.int .i64 T))).setCell ⟨P,1,none⟩ (.string L))).setCell ⟨P,2,none⟩ (.slice Q O V))).setCell ⟨P,3,none⟩ (.slice H J U))).setCell ⟨P,4,none⟩ (.slice W N I))).setCell ⟨P,5,none⟩ (.int .i64 qc)):=⟨_,rfl⟩;have pS:wS.heap[P]?=some (XB T L (.slice Q O V) (.slice H J U) (.slice W N I) qc):=by rw [z];exact Zu Y.out.p (.int .i64 T) (.string L) (.slice Q O V) (.slice H J U) (.slice W N I) (.int .i64 qc)
   have sS:∀k,k≠P→wS.heap[k]?=w3.heap[k]?:=fun k hk=>by rw [z];exact Yp w3 P (.int .i64 T) (.string L) (.slice Q O V) (.slice H J U) (.slice W N I) (.int .i64 qc) hk
   have kS:zc r w wS:=by rw [z];exact xi Y.out.k (Nat.le_of_lt af) _ _ _ _ _ _
   have zS:wS.heap.size=w3.heap.size:=by rw [z];simp
   obtain ⟨-,-,-,-,-,s5,sf⟩:=zM pS;have aM:=sf 5;obtain ⟨wL,A⟩:∃wL,wL=wS.setCell ⟨P,5,none⟩ (.int .i64 (G:Int)):=⟨_,rfl⟩;have pL:wL.heap[P]?=some (XB T L (.slice Q O V) (.slice H J U) (.slice W N I) (G:Int)):=by rw [A];exact zo _ pS
   have sL:∀k,k≠P→wL.heap[k]?=w3.heap[k]?:=fun k hk=>by rw [A,Below.heap_setCell _ _ _ _ (by simpa using hk)];exact sS k hk
   have kL:zc r w wL:=by rw [A];exact kS.setOther (by simp;omega) _
   have zL:wL.heap.size=w3.heap.size:=by rw [A];simpa using zS
   have nL:wL.heap[w.heap.size]?=some xw:=(sL _ (by omega)).trans Y.out.n
   have HP:Hid (ZF r g w (.ok (x.at G,us)) (.returned (.agg #[.int .i64 T,.string L,.slice Q O V,.slice H J U,.slice W N I,.int .i64 (G:Int)])) (XA wL w.heap.size (.int .i64 T) (.string L) (.slice Q O V) (.slice H J U) (.slice W N I) (.int .i64 (G:Int)))):=ZF.lined G HX.out kL zL sL ao af hr aA ai.out;obtain ⟨x0,x1,x2,x3,x4,x5,-⟩:=zM pL;obtain ⟨y0,y1,y2,y3,y4,y5,yf⟩:=zM nL;obtain ⟨z0,z1,z2,z3,z4,z5,-⟩:=zM (Zu nL (.int .i64 T) (.string L) (.slice Q O V) (.slice H J U) (.slice W N I) (.int .i64 (G:Int)));have ae:Hid (wS=(((((((((((w3.setCell ⟨P,0,none⟩ (.int .i64 T))).setCell ⟨P,1,none⟩ (.string L))).setCell ⟨P,2,none⟩ (.slice Q O V))).setCell ⟨P,3,none⟩ (.slice H J U))).setCell ⟨P,4,none⟩ (.slice W N I))).setCell ⟨P,5,none⟩ (.int .i64 qc))):=z;have aw:=A.symm;clear hx aO am z A pS sS kS zS sf pL sL kL zL nL HX ai
   go_upto_region 13 with fail
   rw [←ae.out];clear ae m0 m1 m2 m3 m4 m5 mf;go_wp2
   exact bodyPost_ret (v:=.agg #[.int .i64 T,.string L,.slice Q O V,.slice H J U,.slice W N I,.int .i64 (G:Int)]) (by simp [results,Tryz.results134,go_sem,z0,z1,z2,z3,z4,z5]) rfl HP.out
 ·have bg:zm t0 [108,101,116]=false:=by simpa using i1
  rw [bg] at c1;rw [if_neg i1] at hp;go_wp2_with fail
  refine c1.mono ?_;clear c1;rintro e w2 ⟨rfl,aF,h2⟩;have aq:zf r g o cap (t0::X) w2:=by simpa using h2
  have ak:Hid (SB r w P w2):=aQ.out.next aF hr Z.out;have c2:=Zy r g o cap t0 X [105,102] w2 aq (fun hi=>(hE.tail (zk hi)).ne)
  clear aF h2 aq
  by_cases i2:zm t0 [105,102]=true
  ·rw [i2] at c2
   rw [if_pos i2] at hp;have D:=hE.tail (zk i2);go_wp2_with fail
   refine c2.mono ?_;clear c2;rintro e w3 ⟨rfl,am,h3⟩;have aB:zf r g (o+5) (cap-1) X w3:=by simpa using h3
   have Y:Hid (SB r w P w3):=ak.out.next am hr Z.out
   have cl:∃R0,R=atL G R0∧Calls Tryz.prog 165 #[.pointer (some ⟨r,0,none⟩)] w3 (ZF r g w3 R0):=by
    obtain ⟨R0,h9,h8⟩:=zch F X G hp;exact ⟨R0,h8.symm,zfh r g _ _ F X w3 R0 aB D h9 (fun w1 o1 cap1 ts1 r1 hb D hR hK=>aI.out w1 o1 cap1 ts1 r1 hb D hR (Y.out.k.trans hK)) (fun w1 o1 cap1 ts1 r1 hb D hR hK=>a1.out w1 o1 cap1 ts1 r1 hb D hR (Y.out.k.trans hK))⟩
   obtain ⟨R0,rfl,cl⟩:=cl;clear am h3 aB hp D;go_wp2_with fail
   refine cl.mono ?_;clear cl;rintro e w4 ⟨al,y⟩;have aa:Hid (SB r w P w4):=Y.out.next al hr Z.out;rcases R0 with a | ⟨x,us⟩
   ·obtain rfl:=y
    exact ⟨rfl,aa.out.k,rfl⟩
   ·obtain ⟨v,o4,a0,rfl,hx,aU⟩:=y
    obtain ⟨T,L,Q,O,V,H,J,U,W,N,I,qc,rfl⟩:=hx.agg;have HX:Hid (yo (fun k=>w3.heap.size≤k) w4 x (.agg #[.int .i64 T,.string L,.slice Q O V,.slice H J U,.slice W N I,.int .i64 qc])):=hx
    have ai:Hid (zf r g o4 a0 us w4):=aU;have ao:=Y.out.lt;have af:=Z.out;obtain ⟨m0,m1,m2,m3,m4,m5,mf⟩:=zM aa.out.p;obtain ⟨wS,z⟩:∃wS,wS=(((((((((((w4.setCell ⟨P,0,none⟩ (.int .i64 T))).setCell ⟨P,1,none⟩ (.string L))).setCell ⟨P,2,none⟩ (.slice Q O V))).setCell ⟨P,3,none⟩ (.slice H J U))).setCell ⟨P,4,none⟩ (.slice W N I))).setCell ⟨P,5,none⟩ (.int .i64 qc)):=⟨_,rfl⟩;have pS:wS.heap[P]?=some (XB T L (.slice Q O V) (.slice H J U) (.slice W N I) qc):=by rw [z];exact Zu aa.out.p (.int .i64 T) (.string L) (.slice Q O V) (.slice H J U) (.slice W N I) (.int .i64 qc)
    have sS:∀k,k≠P→wS.heap[k]?=w4.heap[k]?:=fun k hk=>by rw [z];exact Yp w4 P (.int .i64 T) (.string L) (.slice Q O V) (.slice H J U) (.slice W N I) (.int .i64 qc) hk
    have kS:zc r w wS:=by rw [z];exact xi aa.out.k (Nat.le_of_lt af) _ _ _ _ _ _
    have zS:wS.heap.size=w4.heap.size:=by rw [z];simp
    obtain ⟨-,-,-,-,-,s5,sf⟩:=zM pS;have aM:=sf 5;obtain ⟨wL,A⟩:∃wL,wL=wS.setCell ⟨P,5,none⟩ (.int .i64 (G:Int)):=⟨_,rfl⟩;have pL:wL.heap[P]?=some (XB T L (.slice Q O V) (.slice H J U) (.slice W N I) (G:Int)):=by rw [A];exact zo _ pS
    have sL:∀k,k≠P→wL.heap[k]?=w4.heap[k]?:=fun k hk=>by rw [A,Below.heap_setCell _ _ _ _ (by simpa using hk)];exact sS k hk
    have kL:zc r w wL:=by rw [A];exact kS.setOther (by simp;omega) _
    have zL:wL.heap.size=w4.heap.size:=by rw [A];simpa using zS
    have nL:wL.heap[w.heap.size]?=some xw:=(sL _ (by omega)).trans aa.out.n
    have HP:Hid (ZF r g w (.ok (x.at G,us)) (.returned (.agg #[.int .i64 T,.string L,.slice Q O V,.slice H J U,.slice W N I,.int .i64 (G:Int)])) (XA wL w.heap.size (.int .i64 T) (.string L) (.slice Q O V) (.slice H J U) (.slice W N I) (.int .i64 (G:Int)))):=ZF.lined G HX.out kL zL sL ao af hr aA ai.out;obtain ⟨x0,x1,x2,x3,x4,x5,-⟩:=zM pL;obtain ⟨y0,y1,y2,y3,y4,y5,yf⟩:=zM nL;obtain ⟨z0,z1,z2,z3,z4,z5,-⟩:=zM (Zu nL (.int .i64 T) (.string L) (.slice Q O V) (.slice H J U) (.slice W N I) (.int .i64 (G:Int)));have ae:Hid (wS=(((((((((((w4.setCell ⟨P,0,none⟩ (.int .i64 T))).setCell ⟨P,1,none⟩ (.string L))).setCell ⟨P,2,none⟩ (.slice Q O V))).setCell ⟨P,3,none⟩ (.slice H J U))).setCell ⟨P,4,none⟩ (.slice W N I))).setCell ⟨P,5,none⟩ (.int .i64 qc))):=z;have aw:=A.symm;clear hx aU al z A pS sS kS zS sf pL sL kL zL nL HX ai
    go_upto_region 13 with fail
    rw [←ae.out];clear ae m0 m1 m2 m3 m4 m5 mf;go_wp2
    exact bodyPost_ret (v:=.agg #[.int .i64 T,.string L,.slice Q O V,.slice H J U,.slice W N I,.int .i64 (G:Int)]) (by simp [results,Tryz.results134,go_sem,z0,z1,z2,z3,z4,z5]) rfl HP.out
  ·have bi:zm t0 [105,102]=false:=by simpa using i2
   rw [bi] at c2;rw [if_neg i2] at hp;go_wp2_with fail
   refine c2.mono ?_;clear c2;rintro e w3 ⟨rfl,am,h3⟩;have aB:zf r g o cap (t0::X) w3:=by simpa using h3
   have Y:Hid (SB r w P w3):=ak.out.next am hr Z.out;have c3:=Zy r g o cap t0 X [119,104,105,108,101] w3 aB (fun hi=>(hE.tail (zk hi)).ne)
   clear am h3 aB
   by_cases i3:zm t0 [119,104,105,108,101]=true
   ·rw [i3] at c3
    rw [if_pos i3] at hp;have D:=hE.tail (zk i3);go_wp2_with fail
    refine c3.mono ?_;clear c3;rintro e w4 ⟨rfl,al,h4⟩;have aK:zf r g (o+5) (cap-1) X w4:=by simpa using h4
    have aa:Hid (SB r w P w4):=Y.out.next al hr Z.out;cases hb1:zg F 1 X with
    | none=>rw [hb1] at hp;cases hp
    | some r1 =>
     rw [hb1] at hp;have ce:=aI.out w4 _ _ X r1 hb1 D aK aa.out.k;clear h4 aK al;go_wp2_with fail
     refine ce.mono ?_;clear ce;rintro e w5 ⟨aj,y⟩;have ad:Hid (SB r w P w5):=aa.out.next aj hr Z.out;rcases r1 with a | ⟨x,us⟩
     ·obtain rfl:=y
      simp only [zh,Option.some.injEq] at hp;subst hp;exact ⟨rfl,ad.out.k,rfl⟩
     ·obtain ⟨v,o5,aE,rfl,hx,aP⟩:=y
      obtain ⟨xa,xb,xc,x0,x1,x2,xl,rfl⟩:=hx.agg;have bb:=(Ze F).1 _ _ _ _ hb1 D;simp only [zh] at hp;cases hb2:zI F us with
      | none=>rw [hb2] at hp;cases hp
      | some r2 =>
       rw [hb2] at hp;obtain ⟨wA,ar⟩:∃wA,wA=w5.alloc (exO xa xb xc (.slice x0 x1 x2) xl):=⟨_,rfl⟩;have av:Hid (SB r w P wA):=by rw [ar];exact ad.out.next ((zc.refl r w5).alloc _) hr Z.out
       have a3:=ad.out.lt;have aJ:=zK.one (S:=fun k=>w4.heap.size≤k) 45 (c:=[.int .i64 xa,.string xb,.int .i64 xc,.slice x0 x1 x2,.int .i64 xl]) hx rfl aj.size
       have bd:wA.heap.size=w5.heap.size+1:=by rw [ar];simp
       have aT:=aa.out.lt;have af:=Z.out;obtain ⟨t2,us2,rfl⟩:=bb.cons;have aR:zf r g o5 aE (t2::us2) wA:=by rw [ar];exact aP.alloc _
       obtain ⟨m0,m1,m2,m3,m4,m5,mf⟩:=zM av.out.p;obtain ⟨wS,z⟩:∃wS,wS=(((((((((((wA.setCell ⟨P,0,none⟩ (.int .i64 5))).setCell ⟨P,1,none⟩ (.string ⟨#[]⟩))).setCell ⟨P,2,none⟩ (.slice (some ⟨w5.heap.size,0,none⟩) 1 1))).setCell ⟨P,3,none⟩ (.slice none 0 0))).setCell ⟨P,4,none⟩ (.slice none 0 0))).setCell ⟨P,5,none⟩ (.int .i64 0)):=⟨_,rfl⟩;have pS:wS.heap[P]?=some (XB 5 ⟨#[]⟩ (.slice (some ⟨w5.heap.size,0,none⟩) 1 1) (.slice none 0 0) (.slice none 0 0) 0):=by rw [z];exact Zu av.out.p (.int .i64 5) (.string ⟨#[]⟩) (.slice (some ⟨w5.heap.size,0,none⟩) 1 1) (.slice none 0 0) (.slice none 0 0) (.int .i64 0)
       have sS:∀k,k≠P→wS.heap[k]?=wA.heap[k]?:=fun k hk=>by rw [z];exact Yp wA P (.int .i64 5) (.string ⟨#[]⟩) (.slice (some ⟨w5.heap.size,0,none⟩) 1 1) (.slice none 0 0) (.slice none 0 0) (.int .i64 0) hk
       have kS:zc r w wS:=by rw [z];exact xi av.out.k (Nat.le_of_lt af) _ _ _ _ _ _
       have zS:wS.heap.size=wA.heap.size:=by rw [z];simp
       have aS:zf r g o5 aE (t2::us2) wS:=aR.keep (sS r (by omega)) (sS g (by omega))
       have aG:zK (fun k=>w4.heap.size≤k) wS [x] (.slice (some ⟨w5.heap.size,0,none⟩) 1 1):=by
        have h9:zK (fun k=>w4.heap.size≤k) wA [x] (.slice (some ⟨w5.heap.size,0,none⟩) 1 1):=by rw [ar];exact aJ
        exact h9.kept (by omega) fun k hk _=>sS k (by omega)
       have cb:=a1.out wS o5 aE (t2::us2) r2 hb2 bb aS kS;have bp:Hid (wA=w5.alloc (exO xa xb xc (.slice x0 x1 x2) xl)):=ar;have ae:Hid (wS=(((((((((((wA.setCell ⟨P,0,none⟩ (.int .i64 5))).setCell ⟨P,1,none⟩ (.string ⟨#[]⟩))).setCell ⟨P,2,none⟩ (.slice (some ⟨w5.heap.size,0,none⟩) 1 1))).setCell ⟨P,3,none⟩ (.slice none 0 0))).setCell ⟨P,4,none⟩ (.slice none 0 0))).setCell ⟨P,5,none⟩ (.int .i64 0))):=z;have aW:Hid (wS.heap[P]?=some (XB 5 ⟨#[]⟩ (.slice (some ⟨w5.heap.size,0,none⟩) 1 1) (.slice none 0 0) (.slice none 0 0) 0)):=pS;have aX:Hid (wS.heap[w.heap.size]?=some xw):=(sS _ (by omega)).trans av.out.n
       have aZ:Hid (zc r w wS):=kS;have aC:Hid (zK (fun k=>w4.heap.size≤k) wS [x] (.slice (some ⟨w5.heap.size,0,none⟩) 1 1)):=aG
       have HZ:Hid (P<w4.heap.size∧w4.heap.size≤wS.heap.size):=⟨aT,by have:=aj.size;omega⟩
       have a2:=ar.symm;clear hx aP aR aS aJ aG bd ar z pS sS kS zS aj aT a3
       go_upto_region 10 with fail
       rw [←ae.out];clear ae m0 m1 m2 m3 m4 m5 mf a2;go_wp2_with fail
       refine cb.mono ?_;clear cb;rintro e w6 ⟨ah,y⟩;rcases r2 with a | ⟨bl,bf⟩
       ·obtain rfl:=y
        simp only [Option.some.injEq] at hp;subst hp;exact ⟨rfl,aZ.out.trans ah,rfl⟩
       ·obtain ⟨vb,o6,au,rfl,aV,ag⟩:=y
        simp only [Option.some.injEq] at hp;subst hp;obtain ⟨c0,c1,c2,rfl⟩:=aV.slice;have hz:=HZ.out;have a8:P<wS.heap.size:=(Array.getElem?_eq_some_iff.1 aW.out).1;have a7:w.heap.size<wS.heap.size:=(Array.getElem?_eq_some_iff.1 aX.out).1;have p6:=(ah.block P a8 (by omega)).trans aW.out
        have n6:=(ah.block w.heap.size a7 (by omega)).trans aX.out
        have k6:zc r w w6:=aZ.out.trans ah;obtain ⟨-,-,-,g3,-,-,gf⟩:=zM p6;have bo:=gf 3;obtain ⟨wB,az⟩:∃wB,wB=w6.setCell ⟨P,3,none⟩ (.slice c0 c1 c2):=⟨_,rfl⟩;have pB:wB.heap[P]?=some (XB 5 ⟨#[]⟩ (.slice (some ⟨w5.heap.size,0,none⟩) 1 1) (.slice c0 c1 c2) (.slice none 0 0) 0):=by rw [az];exact zo _ p6
        have sB:∀k,k≠P→wB.heap[k]?=w6.heap[k]?:=fun k hk=>by rw [az];exact Below.heap_setCell _ _ _ _ (by simpa using hk)
        have kB:zc r w wB:=by rw [az];exact k6.setOther (by simp;omega) _
        have zB:wB.heap.size=w6.heap.size:=by rw [az];simp
        obtain ⟨-,-,-,-,-,s5,sf⟩:=zM pB;have aM:=sf 5;obtain ⟨wL,A⟩:∃wL,wL=wB.setCell ⟨P,5,none⟩ (.int .i64 (G:Int)):=⟨_,rfl⟩;have pL:wL.heap[P]?=some (XB 5 ⟨#[]⟩ (.slice (some ⟨w5.heap.size,0,none⟩) 1 1) (.slice c0 c1 c2) (.slice none 0 0) (G:Int)):=by rw [A];exact zo _ pB
        have sL:∀k,k≠P→wL.heap[k]?=w6.heap[k]?:=fun k hk=>by rw [A,Below.heap_setCell _ _ _ _ (by simpa using hk)];exact sB k hk
        have kL:zc r w wL:=by rw [A];exact kB.setOther (by simp;omega) _
        have zL:wL.heap.size=w6.heap.size:=by rw [A];simpa using zB
        have nL:wL.heap[w.heap.size]?=some xw:=(sL _ (by omega)).trans n6
        have aD:zK (fun k=>w4.heap.size≤k) wL [x] (.slice (some ⟨w5.heap.size,0,none⟩) 1 1):=(aC.out.keptR ah fun k hk=>by omega).kept (by omega) fun k hk _=>sL k (by omega)
        have aN:z8 (fun k=>w4.heap.size≤k) wL bl (.slice c0 c1 c2):=(aV.kept (w':=wL) (by omega) fun k hk _=>sL k (by omega)).wide fun k hk=>by omega
        have HP:Hid (ZF r g w (.ok (.mk 5 [] [x] bl [] G,bf)) (.returned (.agg #[.int .i64 5,.string ⟨#[]⟩,.slice (some ⟨w5.heap.size,0,none⟩) 1 1,.slice c0 c1 c2,.slice none 0 0,.int .i64 (G:Int)])) (XA wL w.heap.size (.int .i64 5) (.string ⟨#[]⟩) (.slice (some ⟨w5.heap.size,0,none⟩) 1 1) (.slice c0 c1 c2) (.slice none 0 0) (.int .i64 (G:Int)))) :=
         ZF.of_set6 (B:=w4.heap.size) 5 [] G kL (Nat.le_refl _) hr aA aD aN (z8.nil _ _) (by omega) (ag.keep (sL r (by omega)) (sL g (by omega)))
        obtain ⟨bt,br,bs,bm,bn,bu,-⟩:=zM pL;obtain ⟨y0,y1,y2,y3,y4,y5,yf⟩:=zM nL;obtain ⟨z0,z1,z2,z3,z4,z5,-⟩:=zM (Zu nL (.int .i64 5) (.string ⟨#[]⟩) (.slice (some ⟨w5.heap.size,0,none⟩) 1 1) (.slice c0 c1 c2) (.slice none 0 0) (.int .i64 (G:Int)));have bk:=az.symm;have aw:=A.symm;clear az A pB sB kB zB sf gf pL sL kL zL nL aD aN p6 n6 k6 hz a8 a7 aV ag ah aW aX aZ aC HZ;go_wp2
        exact bodyPost_ret (v:=.agg #[.int .i64 5,.string ⟨#[]⟩,.slice (some ⟨w5.heap.size,0,none⟩) 1 1,.slice c0 c1 c2,.slice none 0 0,.int .i64 (G:Int)]) (by simp [results,Tryz.results134,go_sem,z0,z1,z2,z3,z4,z5]) rfl HP.out
   ·have bh:zm t0 [119,104,105,108,101]=false:=by simpa using i3
    rw [bh] at c3;rw [if_neg i3] at hp;go_wp2_with fail
    refine c3.mono ?_;clear c3;rintro e w4 ⟨rfl,al,h4⟩;have aK:zf r g o cap (t0::X) w4:=by simpa using h4
    have aa:Hid (SB r w P w4):=Y.out.next al hr Z.out;have c4:=Zy r g o cap t0 X [114,101,116,117,114,110] w4 aK (fun hi=>(hE.tail (zk hi)).ne)
    clear al h4 aK
    by_cases i4:zm t0 [114,101,116,117,114,110]=true
    ·rw [i4] at c4
     rw [if_pos i4] at hp;have D:=hE.tail (zk i4);go_wp2_with fail
     refine c4.mono ?_;clear c4;rintro e w5 ⟨rfl,aj,h5⟩;have ax:zf r g (o+5) (cap-1) X w5:=by simpa using h5
     have ad:Hid (SB r w P w5):=aa.out.next aj hr Z.out
     have cl:∃R0,R=atL G R0∧Calls Tryz.prog 166 #[.pointer (some ⟨r,0,none⟩)] w5 (ZF r g w5 R0):=by
      obtain ⟨t1,an,rfl⟩:=D.cons;obtain ⟨res,hR,aL⟩:=zco hp;refine ⟨xd t1 an res,hR,?_⟩
      by_cases hc:zm t1 [59]=false
      ·have hb:=aL hc
       exact za7 r g _ _ t1 an w5 res ax D (fun l us e=>by subst e;exact (Ze F).1 _ _ _ _ hb D) fun _ w1 o1 cap1 hR1 hK1=>aI.out w1 o1 cap1 (t1::an) res hb D hR1 (ad.out.k.trans hK1)
      ·have e9:xd t1 an res=xd t1 an (.error 0):=by
        unfold xd
        rw [if_pos (by simpa using hc),if_pos (by simpa using hc)]
       rw [e9];exact za7 r g _ _ t1 an w5 (.error 0) ax D (fun l us e=>by cases e) fun h9=>absurd h9 hc
     obtain ⟨R0,rfl,cl⟩:=cl;clear aj h5 ax hp D;go_wp2_with fail
     refine cl.mono ?_;clear cl;rintro e w6 ⟨ah,y⟩;have ab:Hid (SB r w P w6):=ad.out.next ah hr Z.out;rcases R0 with a | ⟨x,us⟩
     ·obtain rfl:=y
      exact ⟨rfl,ab.out.k,rfl⟩
     ·obtain ⟨v,o6,au,rfl,hx,ag⟩:=y
      obtain ⟨T,L,Q,O,V,H,J,U,W,N,I,qc,rfl⟩:=hx.agg;have HX:Hid (yo (fun k=>w5.heap.size≤k) w6 x (.agg #[.int .i64 T,.string L,.slice Q O V,.slice H J U,.slice W N I,.int .i64 qc])):=hx
      have ai:Hid (zf r g o6 au us w6):=ag;have ao:=ad.out.lt;have af:=Z.out;obtain ⟨m0,m1,m2,m3,m4,m5,mf⟩:=zM ab.out.p;obtain ⟨wS,z⟩:∃wS,wS=(((((((((((w6.setCell ⟨P,0,none⟩ (.int .i64 T))).setCell ⟨P,1,none⟩ (.string L))).setCell ⟨P,2,none⟩ (.slice Q O V))).setCell ⟨P,3,none⟩ (.slice H J U))).setCell ⟨P,4,none⟩ (.slice W N I))).setCell ⟨P,5,none⟩ (.int .i64 qc)):=⟨_,rfl⟩;have pS:wS.heap[P]?=some (XB T L (.slice Q O V) (.slice H J U) (.slice W N I) qc):=by rw [z];exact Zu ab.out.p (.int .i64 T) (.string L) (.slice Q O V) (.slice H J U) (.slice W N I) (.int .i64 qc)
      have sS:∀k,k≠P→wS.heap[k]?=w6.heap[k]?:=fun k hk=>by rw [z];exact Yp w6 P (.int .i64 T) (.string L) (.slice Q O V) (.slice H J U) (.slice W N I) (.int .i64 qc) hk
      have kS:zc r w wS:=by rw [z];exact xi ab.out.k (Nat.le_of_lt af) _ _ _ _ _ _
      have zS:wS.heap.size=w6.heap.size:=by rw [z];simp
      obtain ⟨-,-,-,-,-,s5,sf⟩:=zM pS;have aM:=sf 5;obtain ⟨wL,A⟩:∃wL,wL=wS.setCell ⟨P,5,none⟩ (.int .i64 (G:Int)):=⟨_,rfl⟩;have pL:wL.heap[P]?=some (XB T L (.slice Q O V) (.slice H J U) (.slice W N I) (G:Int)):=by rw [A];exact zo _ pS
      have sL:∀k,k≠P→wL.heap[k]?=w6.heap[k]?:=fun k hk=>by rw [A,Below.heap_setCell _ _ _ _ (by simpa using hk)];exact sS k hk
      have kL:zc r w wL:=by rw [A];exact kS.setOther (by simp;omega) _
      have zL:wL.heap.size=w6.heap.size:=by rw [A];simpa using zS
      have nL:wL.heap[w.heap.size]?=some xw:=(sL _ (by omega)).trans ab.out.n
      have HP:Hid (ZF r g w (.ok (x.at G,us)) (.returned (.agg #[.int .i64 T,.string L,.slice Q O V,.slice H J U,.slice W N I,.int .i64 (G:Int)])) (XA wL w.heap.size (.int .i64 T) (.string L) (.slice Q O V) (.slice H J U) (.slice W N I) (.int .i64 (G:Int)))):=ZF.lined G HX.out kL zL sL ao af hr aA ai.out;obtain ⟨x0,x1,x2,x3,x4,x5,-⟩:=zM pL;obtain ⟨y0,y1,y2,y3,y4,y5,yf⟩:=zM nL;obtain ⟨z0,z1,z2,z3,z4,z5,-⟩:=zM (Zu nL (.int .i64 T) (.string L) (.slice Q O V) (.slice H J U) (.slice W N I) (.int .i64 (G:Int)));have ae:Hid (wS=(((((((((((w6.setCell ⟨P,0,none⟩ (.int .i64 T))).setCell ⟨P,1,none⟩ (.string L))).setCell ⟨P,2,none⟩ (.slice Q O V))).setCell ⟨P,3,none⟩ (.slice H J U))).setCell ⟨P,4,none⟩ (.slice W N I))).setCell ⟨P,5,none⟩ (.int .i64 qc))):=z;have aw:=A.symm;clear hx ag ah z A pS sS kS zS sf pL sL kL zL nL HX ai
      go_upto_region 13 with fail
      rw [←ae.out];clear ae m0 m1 m2 m3 m4 m5 mf;go_wp2
      exact bodyPost_ret (v:=.agg #[.int .i64 T,.string L,.slice Q O V,.slice H J U,.slice W N I,.int .i64 (G:Int)]) (by simp [results,Tryz.results134,go_sem,z0,z1,z2,z3,z4,z5]) rfl HP.out
    ·have bj:zm t0 [114,101,116,117,114,110]=false:=by simpa using i4
     rw [bj] at c4;rw [if_neg i4] at hp;go_wp2_with fail
     refine c4.mono ?_;clear c4;rintro e w5 ⟨rfl,aj,h5⟩;have ax:zf r g o cap (t0::X) w5:=by simpa using h5
     have ad:Hid (SB r w P w5):=aa.out.next aj hr Z.out
     have cl:∃R0,R=atL G R0∧Calls Tryz.prog 167 #[.pointer (some ⟨r,0,none⟩)] w5 (ZF r g w5 R0):=by
      obtain ⟨R0,h9,h8⟩:=zgN F (t0::X) G hp;exact ⟨R0,h8.symm,zd9 r g _ _ F (t0::X) w5 R0 ax hE h9 (fun w1 o1 cap1 ts1 r1 hb D hR hK=>aI.out w1 o1 cap1 ts1 r1 hb D hR (ad.out.k.trans hK))⟩
     obtain ⟨R0,rfl,cl⟩:=cl;clear aj h5 ax hp;go_wp2_with fail
     refine cl.mono ?_;clear cl;rintro e w6 ⟨ah,y⟩;have ab:Hid (SB r w P w6):=ad.out.next ah hr Z.out;rcases R0 with a | ⟨x,us⟩
     ·obtain rfl:=y
      exact ⟨rfl,ab.out.k,rfl⟩
     ·obtain ⟨v,o6,au,rfl,hx,ag⟩:=y
      obtain ⟨T,L,Q,O,V,H,J,U,W,N,I,qc,rfl⟩:=hx.agg;have HX:Hid (yo (fun k=>w5.heap.size≤k) w6 x (.agg #[.int .i64 T,.string L,.slice Q O V,.slice H J U,.slice W N I,.int .i64 qc])):=hx
      have ai:Hid (zf r g o6 au us w6):=ag;have ao:=ad.out.lt;have af:=Z.out;obtain ⟨m0,m1,m2,m3,m4,m5,mf⟩:=zM ab.out.p;obtain ⟨wS,z⟩:∃wS,wS=(((((((((((w6.setCell ⟨P,0,none⟩ (.int .i64 T))).setCell ⟨P,1,none⟩ (.string L))).setCell ⟨P,2,none⟩ (.slice Q O V))).setCell ⟨P,3,none⟩ (.slice H J U))).setCell ⟨P,4,none⟩ (.slice W N I))).setCell ⟨P,5,none⟩ (.int .i64 qc)):=⟨_,rfl⟩;have pS:wS.heap[P]?=some (XB T L (.slice Q O V) (.slice H J U) (.slice W N I) qc):=by rw [z];exact Zu ab.out.p (.int .i64 T) (.string L) (.slice Q O V) (.slice H J U) (.slice W N I) (.int .i64 qc)
      have sS:∀k,k≠P→wS.heap[k]?=w6.heap[k]?:=fun k hk=>by rw [z];exact Yp w6 P (.int .i64 T) (.string L) (.slice Q O V) (.slice H J U) (.slice W N I) (.int .i64 qc) hk
      have kS:zc r w wS:=by rw [z];exact xi ab.out.k (Nat.le_of_lt af) _ _ _ _ _ _
      have zS:wS.heap.size=w6.heap.size:=by rw [z];simp
      obtain ⟨-,-,-,-,-,s5,sf⟩:=zM pS;have aM:=sf 5;obtain ⟨wL,A⟩:∃wL,wL=wS.setCell ⟨P,5,none⟩ (.int .i64 (G:Int)):=⟨_,rfl⟩;have pL:wL.heap[P]?=some (XB T L (.slice Q O V) (.slice H J U) (.slice W N I) (G:Int)):=by rw [A];exact zo _ pS
      have sL:∀k,k≠P→wL.heap[k]?=w6.heap[k]?:=fun k hk=>by rw [A,Below.heap_setCell _ _ _ _ (by simpa using hk)];exact sS k hk
      have kL:zc r w wL:=by rw [A];exact kS.setOther (by simp;omega) _
      have zL:wL.heap.size=w6.heap.size:=by rw [A];simpa using zS
      have nL:wL.heap[w.heap.size]?=some xw:=(sL _ (by omega)).trans ab.out.n
      have HP:Hid (ZF r g w (.ok (x.at G,us)) (.returned (.agg #[.int .i64 T,.string L,.slice Q O V,.slice H J U,.slice W N I,.int .i64 (G:Int)])) (XA wL w.heap.size (.int .i64 T) (.string L) (.slice Q O V) (.slice H J U) (.slice W N I) (.int .i64 (G:Int)))):=ZF.lined G HX.out kL zL sL ao af hr aA ai.out;obtain ⟨x0,x1,x2,x3,x4,x5,-⟩:=zM pL;obtain ⟨y0,y1,y2,y3,y4,y5,yf⟩:=zM nL;obtain ⟨z0,z1,z2,z3,z4,z5,-⟩:=zM (Zu nL (.int .i64 T) (.string L) (.slice Q O V) (.slice H J U) (.slice W N I) (.int .i64 (G:Int)));have ae:Hid (wS=(((((((((((w6.setCell ⟨P,0,none⟩ (.int .i64 T))).setCell ⟨P,1,none⟩ (.string L))).setCell ⟨P,2,none⟩ (.slice Q O V))).setCell ⟨P,3,none⟩ (.slice H J U))).setCell ⟨P,4,none⟩ (.slice W N I))).setCell ⟨P,5,none⟩ (.int .i64 qc))):=z;have aw:=A.symm;clear hx ag ah z A pS sS kS zS sf pL sL kL zL nL HX ai
      go_upto_region 13 with fail
      rw [←ae.out];clear ae m0 m1 m2 m3 m4 m5 mf;go_wp2
      exact bodyPost_ret (v:=.agg #[.int .i64 T,.string L,.slice Q O V,.slice H J U,.slice W N I,.int .i64 (G:Int)]) (by simp [results,Tryz.results134,go_sem,z0,z1,z2,z3,z4,z5]) rfl HP.out
end Go.Proofs.YtcphojjpapgblaaGreatDoor
