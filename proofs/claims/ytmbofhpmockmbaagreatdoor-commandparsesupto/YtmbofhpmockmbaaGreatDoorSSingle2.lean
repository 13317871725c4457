import Derived.Test.YtmbofhpmockmbaaGreatDoorMC14
namespace Go.Proofs.YtmbofhpmockmbaaGreatDoor
open Go.RowKit Go.Shelf
set_option maxHeartbeats 16000000
set_option maxRecDepth 100000
theorem VJ (r g o cap:Nat) (t:Tk) (ts:List Tk) (w:World) (hi:zm t [116,114,117,101]=true) (h:zk r g o cap (t::ts) w) (hE:zt (t::ts)) (hk1:t.k≠1) (hk2:t.k≠2) (hk3:t.k≠3)  :
  Calls Tryz.prog 168 #[.pointer (some ⟨r,0,none⟩)] w (zu r g w (.ok (.mk 2 [] 1 [] t.line,ts))):=by
 have hr:=h.lt.1;have R:=h.lt.2;have I:=h.alloc zL;have ch:=ZI r g o cap t ts _ I;obtain ⟨w2,y⟩:∃w2,w2=((w.alloc zL).alloc (Zf t)).alloc (Zf t):=⟨_,rfl⟩;have Z:zk r g o cap (t::ts) w2:=by rw [y];exact (I.alloc _).alloc _
 have X:zc r w w2:=by rw [y];exact (((zc.refl r w).alloc _).alloc _).alloc _
 have U:w2.heap[w.heap.size]?=some zL:=by
  rw [y,Below.heap_alloc _ _ _ (by simp;omega),Below.heap_alloc _ _ _ (by simp)]
  exact World.alloc_heap_new _ _
 have L:w2.heap[w.heap.size+1+1]?=some (Zf t):=by
  have V:=World.alloc_heap_new ((w.alloc zL).alloc (Zf t)) (Zf t);rw [←y,show ((w.alloc zL).alloc (Zf t)).heap.size=w.heap.size+1+1 by simp] at V
  exact V
 have T:w.heap.size+1+1<w2.heap.size:=(Array.getElem?_eq_some_iff.1 L).1;have N:Hid (w2=((w.alloc zL).alloc (Zf t)).alloc (Zf t)):=y;have M:Hid (zc r w w2):=X;have K:Hid (w2.heap[w.heap.size]?=some zL):=U;have O:Hid (w2.heap[w.heap.size+1+1]?=some (Zf t)):=L;have Y:¬(t.k:Int)=1:=by omega
 have aa:¬(t.k:Int)=2:=by omega
 have W:¬(t.k:Int)=3:=by omega
 clear h I y X U L
 go_enter Tryz.func168,Tryz.ntmps168
 go_wp2_with fail
 refine ch.mono ?_;clear ch;rintro e w1 ⟨rfl,rfl⟩;simp only [YQ];have G:Hid (zc r w2 w2):=zc.refl r w2;have E:Hid (zk r g o cap (t::ts) w2):=Z;clear Z;have Q:=ZF r g o cap t ts [116,114,117,101] w2 E.out (fun hi=>(hE.tail (zo hi)).ne)
 rw [hi] at Q;go_wp2_with fail
 rw [←N.out];refine Q.mono ?_;clear Q;rintro e w9 ⟨rfl,H,A⟩;have z:zc r w2 w9:=G.out.trans H;have D:zk r g (o+5) (cap-1) ts w9:=by simpa using A
 have J:=(z.block _ (by omega) (by omega)).trans K.out
 have p2:=(z.block _ T (by omega)).trans O.out
 obtain ⟨c0,c1,c2,c3,c4,-⟩:=ze p2;obtain ⟨q0,q1,q2,q3,q4,qf⟩:=ze J;obtain ⟨z0,z1,z2,z3,z4⟩:=zj J (.int .i64 2) (.string ⟨#[]⟩) (.int .i64 1) (.slice none 0 0) (.int .i64 t.line)
 have HP:Hid (zu r g w (.ok (.mk 2 [] 1 [] t.line,ts)) (.returned (.agg #[.int .i64 2,.string ⟨#[]⟩,.int .i64 1,.slice none 0 0,.int .i64 t.line])) (set5 w9 w.heap.size (.int .i64 2) (.string ⟨#[]⟩) (.int .i64 1) (.slice none 0 0) (.int .i64 t.line))) :=
  zu.of_set5 (B:=w.heap.size+1) 2 [] 1 t.line (M.out.trans z) (Nat.le_refl _) hr R (.inl ⟨rfl,rfl⟩) (Nat.lt_succ_self _) D
 clear z D J p2 H A;go_wp2
 exact bodyPost_ret (v:=.agg #[.int .i64 2,.string ⟨#[]⟩,.int .i64 1,.slice none 0 0,.int .i64 t.line]) (by simp [results,Tryz.results168,go_sem,z0,z1,z2,z3,z4]) rfl HP.out
theorem vI (r g o cap:Nat) (t:Tk) (ts:List Tk) (w:World) (hi:zm t [102,97,108,115,101]=true) (h:zk r g o cap (t::ts) w) (hE:zt (t::ts)) (hk1:t.k≠1) (hk2:t.k≠2) (hk3:t.k≠3) (hiT:zm t [116,114,117,101]=false) :
  Calls Tryz.prog 168 #[.pointer (some ⟨r,0,none⟩)] w (zu r g w (.ok (.mk 2 [] 0 [] t.line,ts))):=by
 have hr:=h.lt.1;have U:=h.lt.2;have M:=h.alloc zL;have ch:=ZI r g o cap t ts _ M;obtain ⟨w2,y⟩:∃w2,w2=((w.alloc zL).alloc (Zf t)).alloc (Zf t):=⟨_,rfl⟩;have h2:zk r g o cap (t::ts) w2:=by rw [y];exact (M.alloc _).alloc _
 have k2:zc r w w2:=by rw [y];exact (((zc.refl r w).alloc _).alloc _).alloc _
 have X:w2.heap[w.heap.size]?=some zL:=by
  rw [y,Below.heap_alloc _ _ _ (by simp;omega),Below.heap_alloc _ _ _ (by simp)]
  exact World.alloc_heap_new _ _
 have Q:w2.heap[w.heap.size+1+1]?=some (Zf t):=by
  have Y:=World.alloc_heap_new ((w.alloc zL).alloc (Zf t)) (Zf t);rw [←y,show ((w.alloc zL).alloc (Zf t)).heap.size=w.heap.size+1+1 by simp] at Y
  exact Y
 have W:w.heap.size+1+1<w2.heap.size:=(Array.getElem?_eq_some_iff.1 Q).1;have L:Hid (w2=((w.alloc zL).alloc (Zf t)).alloc (Zf t)):=y;have R:Hid (zc r w w2):=k2;have O:Hid (w2.heap[w.heap.size]?=some zL):=X;have T:Hid (w2.heap[w.heap.size+1+1]?=some (Zf t)):=Q;have aa:¬(t.k:Int)=1:=by omega
 have ab:¬(t.k:Int)=2:=by omega
 have Z:¬(t.k:Int)=3:=by omega
 clear h M y k2 X Q
 go_enter Tryz.func168,Tryz.ntmps168
 go_wp2_with fail
 refine ch.mono ?_;clear ch;rintro e w1 ⟨rfl,rfl⟩;simp only [YQ];have G:Hid (zc r w2 w2):=zc.refl r w2;have E:Hid (zk r g o cap (t::ts) w2):=h2;clear h2;have H:=ZF r g o cap t ts [116,114,117,101] w2 E.out (fun hi=>(hE.tail (zo hi)).ne)
 rw [hiT] at H;go_wp2_with fail
 rw [←L.out];refine H.mono ?_;clear H;rintro e V ⟨rfl,A,z⟩;have I:Hid (zc r w2 V):=G.out.trans A;have K:Hid (zk r g o cap (t::ts) V):=show zk _ _ _ _ _ _ by simpa using z
 clear A z G E;clear L;have H:=ZF r g o cap t ts [102,97,108,115,101] V K.out (fun hi=>(hE.tail (zo hi)).ne)
 rw [hi] at H;go_wp2_with fail
 refine H.mono ?_;clear H;rintro e w9 ⟨rfl,A,z⟩;have D:zc r w2 w9:=I.out.trans A;have J:zk r g (o+5) (cap-1) ts w9:=by simpa using z
 have N:=(D.block _ (by omega) (by omega)).trans O.out
 have p2:=(D.block _ W (by omega)).trans T.out
 obtain ⟨c0,c1,c2,c3,c4,-⟩:=ze p2;obtain ⟨q0,q1,q2,q3,q4,qf⟩:=ze N;obtain ⟨z0,z1,z2,z3,z4⟩:=zj N (.int .i64 2) (.string ⟨#[]⟩) (.int .i64 0) (.slice none 0 0) (.int .i64 t.line)
 have HP:Hid (zu r g w (.ok (.mk 2 [] 0 [] t.line,ts)) (.returned (.agg #[.int .i64 2,.string ⟨#[]⟩,.int .i64 0,.slice none 0 0,.int .i64 t.line])) (set5 w9 w.heap.size (.int .i64 2) (.string ⟨#[]⟩) (.int .i64 0) (.slice none 0 0) (.int .i64 t.line))) :=
  zu.of_set5 (B:=w.heap.size+1) 2 [] 0 t.line (R.out.trans D) (Nat.le_refl _) hr U (.inl ⟨rfl,rfl⟩) (Nat.lt_succ_self _) J
 clear D J N p2 A z;go_wp2
 exact bodyPost_ret (v:=.agg #[.int .i64 2,.string ⟨#[]⟩,.int .i64 0,.slice none 0 0,.int .i64 t.line]) (by simp [results,Tryz.results168,go_sem,z0,z1,z2,z3,z4]) rfl HP.out
def Yj (t:Tk) (res:PR Ex):PR Ex :=
 if zm t [40]=true then
  match res with
  | .error a=>.error a
  | .ok (e,us)=>if zm (zx us) [41]=true then .ok (e,us.tail) else .error (zx us).at0
 else .error t.at0
theorem xm (r g o cap:Nat) (t:Tk) (ts:List Tk) (w:World) (res:PR Ex) (hEnd:∀l us,res=.ok (l,us)→zt us) (hex:zm t [40]=true→∀w1 o1 cap1,zk r g o1 cap1 ts w1→zc r w w1→Calls Tryz.prog 74 #[.pointer (some ⟨r,0,none⟩)] w1 (zu r g w1 res)) (h:zk r g o cap (t::ts) w) (hE:zt (t::ts)) (hk1:t.k≠1) (hk2:t.k≠2) (hk3:t.k≠3) (hiT:zm t [116,114,117,101]=false) (hiF:zm t [102,97,108,115,101]=false) (hiN:zm t [110,101,119]=false) (hiB:zm t [91]=false) :
  Calls Tryz.prog 168 #[.pointer (some ⟨r,0,none⟩)] w (zu r g w (Yj t res)):=by
 generalize hres:Yj t res=R;have hr:=h.lt.1;have aA:=h.lt.2;have h0:=h.alloc zL;have ch:=ZI r g o cap t ts _ h0;obtain ⟨w2,H⟩:∃w2,w2=((w.alloc zL).alloc (Zf t)).alloc (Zf t):=⟨_,rfl⟩;have h2:zk r g o cap (t::ts) w2:=by rw [H];exact (h0.alloc _).alloc _
 have k2:zc r w w2:=by rw [H];exact (((zc.refl r w).alloc _).alloc _).alloc _
 have n0:w2.heap[w.heap.size]?=some zL:=by
  rw [H,Below.heap_alloc _ _ _ (by simp;omega),Below.heap_alloc _ _ _ (by simp)]
  exact World.alloc_heap_new _ _
 have n2:w2.heap[w.heap.size+1+1]?=some (Zf t):=by
  have hx:=World.alloc_heap_new ((w.alloc zL).alloc (Zf t)) (Zf t);rw [←H,show ((w.alloc zL).alloc (Zf t)).heap.size=w.heap.size+1+1 by simp] at hx
  exact hx
 have aG:w.heap.size+1+1<w2.heap.size:=(Array.getElem?_eq_some_iff.1 n2).1;have au:Hid (w2=((w.alloc zL).alloc (Zf t)).alloc (Zf t)):=H;have Q:Hid (zc r w w2):=k2;have aB:Hid (w2.heap[w.heap.size]?=some zL):=n0;have aI:Hid (w2.heap[w.heap.size+1+1]?=some (Zf t)):=n2;have aE:¬(t.k:Int)=1:=by omega
 have aC:¬(t.k:Int)=2:=by omega
 have aD:¬(t.k:Int)=3:=by omega
 clear h h0 H k2 n0 n2
 go_enter Tryz.func168,Tryz.ntmps168
 go_wp2_with fail
 refine ch.mono ?_;clear ch;rintro e w1 ⟨rfl,rfl⟩;simp only [YQ];have ad:Hid (zc r w2 w2):=zc.refl r w2;have aa:Hid (zk r g o cap (t::ts) w2):=h2;clear h2;have E:=ZF r g o cap t ts [116,114,117,101] w2 aa.out (fun hi=>(hE.tail (zo hi)).ne)
 rw [hiT] at E;go_wp2_with fail
 rw [←au.out];refine E.mono ?_;clear E;rintro e w3 ⟨rfl,y,A⟩;have ae:Hid (zc r w2 w3):=ad.out.trans y;have ah:Hid (zk r g o cap (t::ts) w3):=show zk _ _ _ _ _ _ by simpa using A
 clear y A ad aa;clear au;have E:=ZF r g o cap t ts [102,97,108,115,101] w3 ah.out (fun hi=>(hE.tail (zo hi)).ne)
 rw [hiF] at E;go_wp2_with fail
 refine E.mono ?_;clear E;rintro e w4 ⟨rfl,y,A⟩;have ab:Hid (zc r w2 w4):=ae.out.trans y;have X:Hid (zk r g o cap (t::ts) w4):=show zk _ _ _ _ _ _ by simpa using A
 clear y A ae ah;have E:=ZF r g o cap t ts [110,101,119] w4 X.out (fun hi=>(hE.tail (zo hi)).ne)
 rw [hiN] at E;go_wp2_with fail
 refine E.mono ?_;clear E;rintro e w5 ⟨rfl,y,A⟩;have Y:Hid (zc r w2 w5):=ab.out.trans y;have af:Hid (zk r g o cap (t::ts) w5):=show zk _ _ _ _ _ _ by simpa using A
 clear y A ab X;have E:=ZF r g o cap t ts [91] w5 af.out (fun hi=>(hE.tail (zo hi)).ne)
 rw [hiB] at E;go_wp2_with fail
 refine E.mono ?_;clear E;rintro e w6 ⟨rfl,y,A⟩;have T:Hid (zc r w2 w6):=Y.out.trans y;have ak:Hid (zk r g o cap (t::ts) w6):=show zk _ _ _ _ _ _ by simpa using A
 clear y A Y af;have I:=xV r g o cap t ts [40] w6 ak.out (fun hi=>(hE.tail (zo hi)).ne)
 by_cases hi:zm t [40]=true
 ·simp only [if_pos hi] at I
  go_wp2_with fail
  refine I.mono ?_;clear I;rintro e w9 ⟨y,rfl,ar⟩;have ap:zc r w2 w9:=T.out.trans y;have c9:=hex hi w9 _ _ ar (Q.out.trans ap);have av:Hid (zc r w2 w9):=ap;clear hex y ar ap T ak;go_wp2_with fail
  refine c9.mono ?_;clear c9;rintro e G ⟨J,N⟩;have ag:Hid (zc r w2 G):=av.out.trans J;rcases res with a | ⟨x,us⟩
  ·obtain rfl:=N
   obtain rfl:R=.error a:=by rw [←hres];unfold Yj;rw [if_pos hi]
   exact ⟨rfl,Q.out.trans ag.out,rfl⟩
  ·obtain ⟨v,o3,aj,rfl,hx,ax⟩:=N
   obtain ⟨a,b,c,O,M,K,l,rfl⟩:=hx.agg;have aw:=hEnd x us rfl;obtain ⟨t3,U,rfl⟩:=aw.cons;obtain ⟨w11,D⟩:∃w11,w11=G.alloc (.cells #[.int .i64 a,.string b,.int .i64 c,.slice O M K,.int .i64 l] 90):=⟨_,rfl⟩;have az:zk r g o3 aj (t3::U) w11:=by rw [D];exact ax.alloc _
   have ao:w11.heap[G.heap.size]?=some (.cells #[.int .i64 a,.string b,.int .i64 c,.slice O M K,.int .i64 l] 90 (0,0)):=by rw [D];exact World.alloc_heap_new _ _
   have ai:Hid (zc r w2 w11):=show zc _ _ _ by rw [D];exact ag.out.alloc _
   have Z:zO w9.heap.size w11 x (.agg #[.int .i64 a,.string b,.int .i64 c,.slice O M K,.int .i64 l]):=by rw [D];exact zO.kept hx (by simp) fun k _ hlt=>Below.heap_alloc _ _ _ hlt
   have aq:Hid (zO w9.heap.size w11 x (.agg #[.int .i64 a,.string b,.int .i64 c,.slice O M K,.int .i64 l])):=Z;have ay:Hid (w11.heap[G.heap.size]?=some (.cells #[.int .i64 a,.string b,.int .i64 c,.slice O M K,.int .i64 l] 90 (0,0))):=ao;have I:=xV r g o3 aj t3 U [41] w11 az (fun hi=>(aw.tail (zo hi)).ne)
   have L:Hid (w11=G.alloc (.cells #[.int .i64 a,.string b,.int .i64 c,.slice O M K,.int .i64 l] 90)):=D;have aH:=av.out.size;have aF:=J.size;have an:G.heap.size<w11.heap.size:=(Array.getElem?_eq_some_iff.1 ao).1;clear D az ao Z hx ax J
   by_cases hm:zm t3 [41]=true
   ·simp only [if_pos hm] at I
    obtain rfl:R=.ok (x,U):=by rw [←hres];unfold Yj;rw [if_pos hi];simp only [z7,hm,if_true,List.tail_cons]
    go_wp2_with fail
    rw [←L.out];refine I.mono ?_;clear I L;rintro e al ⟨z,rfl,W⟩;have am:=ai.out.trans z;have p0:=(am.block _ (by omega) (by omega)).trans aB.out
    have pB:=(z.block _ an (by omega)).trans ay.out
    obtain ⟨c0,c1,c2,c3,c4,-⟩:=ze pB;obtain ⟨q0,q1,q2,q3,q4,qf⟩:=ze p0;obtain ⟨z0,z1,z2,z3,z4⟩:=zj p0 (.int .i64 a) (.string b) (.int .i64 c) (.slice O M K) (.int .i64 l);have V:zO w9.heap.size al x (.agg #[.int .i64 a,.string b,.int .i64 c,.slice O M K,.int .i64 l]):=zO.kept aq.out z.size fun k hB hlt=>z.block k hlt (by omega)
    have HP:Hid (zu r g w (.ok (x,U)) (.returned (.agg #[.int .i64 a,.string b,.int .i64 c,.slice O M K,.int .i64 l])) (set5 al w.heap.size (.int .i64 a) (.string b) (.int .i64 c) (.slice O M K) (.int .i64 l))) :=
     zu.of_set5' (Q.out.trans am) (Nat.le_refl _) hr aA V (by omega) W
    clear am z W p0 pB V;go_wp2
    exact bodyPost_ret (v:=.agg #[.int .i64 a,.string b,.int .i64 c,.slice O M K,.int .i64 l]) (by simp [results,Tryz.results168,go_sem,z0,z1,z2,z3,z4]) rfl HP.out
   ·simp only [if_neg hm] at I
    obtain rfl:R=.error t3.at0:=by rw [←hres];unfold Yj;rw [if_pos hi];simp only [z7,if_neg hm]
    go_wp2_with fail
    rw [←L.out];refine I.mono ?_;clear I;rintro e al ⟨z,rfl⟩;exact ⟨rfl,Q.out.trans (ai.out.trans z),rfl⟩
 ·simp only [if_neg hi] at I
  obtain rfl:R=.error t.at0:=by rw [←hres];unfold Yj;rw [if_neg hi]
  clear hex hEnd;go_wp2_with fail
  refine I.mono ?_;clear I;rintro e w9 ⟨y,rfl⟩;exact ⟨rfl,Q.out.trans (T.out.trans y),rfl⟩
end Go.Proofs.YtmbofhpmockmbaaGreatDoor
