import Derived.Test.YtmbofhpmockmbaaGreatDoorMC20
namespace Go.Proofs.YtmbofhpmockmbaaGreatDoor
open Go.RowKit Go.Shelf
set_option maxHeartbeats 16000000
set_option maxRecDepth 100000
theorem xn (r g o cap:Nat) (t:Tk) (ts:List Tk) (w:World) (hi:zn t [116,114,117,101]=true) (h:zc r g o cap (t::ts) w) (hE:zh (t::ts)) (hk1:t.k≠1) (hk2:t.k≠2) (hk3:t.k≠3)  :
  Calls Tryz.prog 168 #[.pointer (some ⟨r,0,none⟩)] w (zi r g w (.ok (.mk 2 [] 1 [] t.line,ts))):=by
 have hr:=h.lt.1;have H:=h.lt.2;have J:=h.alloc zA;have Z:=zZ r g o cap t ts _ J;obtain ⟨w2,x⟩:∃w2,w2=((w.alloc zA).alloc (zE t)).alloc (zE t):=⟨_,rfl⟩;have S:zc r g o cap (t::ts) w2:=by rw [x];exact (J.alloc _).alloc _
 have X:zb r w w2:=by rw [x];exact (((zb.refl r w).alloc _).alloc _).alloc _
 have V:w2.heap[w.heap.size]?=some zA:=by
  rw [x,Below.heap_alloc _ _ _ (by simp;omega),Below.heap_alloc _ _ _ (by simp)]
  exact World.alloc_heap_new _ _
 have M:w2.heap[w.heap.size+1+1]?=some (zE t):=by
  have Y:=World.alloc_heap_new ((w.alloc zA).alloc (zE t)) (zE t);rw [←x,show ((w.alloc zA).alloc (zE t)).heap.size=w.heap.size+1+1 by simp] at Y
  exact Y
 have L:w.heap.size+1+1<w2.heap.size:=(Array.getElem?_eq_some_iff.1 M).1;have K:Hid (w2=((w.alloc zA).alloc (zE t)).alloc (zE t)):=x;have R:Hid (zb r w w2):=X;have N:Hid (w2.heap[w.heap.size]?=some zA):=V;have Q:Hid (w2.heap[w.heap.size+1+1]?=some (zE t)):=M;have U:¬(t.k:Int)=1:=by omega
 have T:¬(t.k:Int)=2:=by omega
 have aa:¬(t.k:Int)=3:=by omega
 clear h J x X V M
 go_enter Tryz.func168,Tryz.ntmps168
 go_wp2_with fail
 refine Z.mono ?_;clear Z;rintro e w1 ⟨rfl,rfl⟩;simp only [YA];have D:Hid (zb r w2 w2):=zb.refl r w2;have G:Hid (zc r g o cap (t::ts) w2):=S;clear S;have O:=zX r g o cap t ts [116,114,117,101] w2 G.out (fun hi=>(hE.tail (zf hi)).ne)
 rw [hi] at O;go_wp2_with fail
 rw [←K.out];refine O.mono ?_;clear O;rintro e w9 ⟨rfl,A,z⟩;have y:zb r w2 w9:=D.out.trans A;have E:zc r g (o+5) (cap-1) ts w9:=by simpa using z
 have I:=(y.block _ (by omega) (by omega)).trans N.out
 have W:=(y.block _ L (by omega)).trans Q.out
 obtain ⟨c0,c1,c2,c3,c4,-⟩:=zr W;obtain ⟨q0,q1,q2,q3,q4,qf⟩:=zr I;obtain ⟨z0,z1,z2,z3,z4⟩:=zo I (.int .i64 2) (.string ⟨#[]⟩) (.int .i64 1) (.slice none 0 0) (.int .i64 t.line)
 have HP:Hid (zi r g w (.ok (.mk 2 [] 1 [] t.line,ts)) (.returned (.agg #[.int .i64 2,.string ⟨#[]⟩,.int .i64 1,.slice none 0 0,.int .i64 t.line])) (set5 w9 w.heap.size (.int .i64 2) (.string ⟨#[]⟩) (.int .i64 1) (.slice none 0 0) (.int .i64 t.line))) :=
  zi.of_set5 (B:=w.heap.size+1) 2 [] 1 t.line (R.out.trans y) (Nat.le_refl _) hr H (.inl ⟨rfl,rfl⟩) (Nat.lt_succ_self _) E
 clear y E I W A z;go_wp2
 exact bodyPost_ret (v:=.agg #[.int .i64 2,.string ⟨#[]⟩,.int .i64 1,.slice none 0 0,.int .i64 t.line]) (by simp [results,Tryz.results168,go_sem,z0,z1,z2,z3,z4]) rfl HP.out
theorem YI (r g o cap:Nat) (t:Tk) (ts:List Tk) (w:World) (hi:zn t [102,97,108,115,101]=true) (h:zc r g o cap (t::ts) w) (hE:zh (t::ts)) (hk1:t.k≠1) (hk2:t.k≠2) (hk3:t.k≠3) (hiT:zn t [116,114,117,101]=false) :
  Calls Tryz.prog 168 #[.pointer (some ⟨r,0,none⟩)] w (zi r g w (.ok (.mk 2 [] 0 [] t.line,ts))):=by
 have hr:=h.lt.1;have L:=h.lt.2;have N:=h.alloc zA;have ch:=zZ r g o cap t ts _ N;obtain ⟨w2,x⟩:∃w2,w2=((w.alloc zA).alloc (zE t)).alloc (zE t):=⟨_,rfl⟩;have V:zc r g o cap (t::ts) w2:=by rw [x];exact (N.alloc _).alloc _
 have k2:zb r w w2:=by rw [x];exact (((zb.refl r w).alloc _).alloc _).alloc _
 have Y:w2.heap[w.heap.size]?=some zA:=by
  rw [x,Below.heap_alloc _ _ _ (by simp;omega),Below.heap_alloc _ _ _ (by simp)]
  exact World.alloc_heap_new _ _
 have Q:w2.heap[w.heap.size+1+1]?=some (zE t):=by
  have hx:=World.alloc_heap_new ((w.alloc zA).alloc (zE t)) (zE t);rw [←x,show ((w.alloc zA).alloc (zE t)).heap.size=w.heap.size+1+1 by simp] at hx
  exact hx
 have O:w.heap.size+1+1<w2.heap.size:=(Array.getElem?_eq_some_iff.1 Q).1;have I:Hid (w2=((w.alloc zA).alloc (zE t)).alloc (zE t)):=x;have U:Hid (zb r w w2):=k2;have R:Hid (w2.heap[w.heap.size]?=some zA):=Y;have T:Hid (w2.heap[w.heap.size+1+1]?=some (zE t)):=Q;have X:¬(t.k:Int)=1:=by omega
 have W:¬(t.k:Int)=2:=by omega
 have aa:¬(t.k:Int)=3:=by omega
 clear h N x k2 Y Q
 go_enter Tryz.func168,Tryz.ntmps168
 go_wp2_with fail
 refine ch.mono ?_;clear ch;rintro e w1 ⟨rfl,rfl⟩;simp only [YA];have D:Hid (zb r w2 w2):=zb.refl r w2;have E:Hid (zc r g o cap (t::ts) w2):=V;clear V;have G:=zX r g o cap t ts [116,114,117,101] w2 E.out (fun hi=>(hE.tail (zf hi)).ne)
 rw [hiT] at G;go_wp2_with fail
 rw [←I.out];refine G.mono ?_;clear G;rintro e S ⟨rfl,z,y⟩;have J:Hid (zb r w2 S):=D.out.trans z;have K:Hid (zc r g o cap (t::ts) S):=show zc _ _ _ _ _ _ by simpa using y
 clear z y D E;clear I;have G:=zX r g o cap t ts [102,97,108,115,101] S K.out (fun hi=>(hE.tail (zf hi)).ne)
 rw [hi] at G;go_wp2_with fail
 refine G.mono ?_;clear G;rintro e w9 ⟨rfl,z,y⟩;have A:zb r w2 w9:=J.out.trans z;have H:zc r g (o+5) (cap-1) ts w9:=by simpa using y
 have M:=(A.block _ (by omega) (by omega)).trans R.out
 have Z:=(A.block _ O (by omega)).trans T.out
 obtain ⟨c0,c1,c2,c3,c4,-⟩:=zr Z;obtain ⟨q0,q1,q2,q3,q4,qf⟩:=zr M;obtain ⟨z0,z1,z2,z3,z4⟩:=zo M (.int .i64 2) (.string ⟨#[]⟩) (.int .i64 0) (.slice none 0 0) (.int .i64 t.line)
 have HP:Hid (zi r g w (.ok (.mk 2 [] 0 [] t.line,ts)) (.returned (.agg #[.int .i64 2,.string ⟨#[]⟩,.int .i64 0,.slice none 0 0,.int .i64 t.line])) (set5 w9 w.heap.size (.int .i64 2) (.string ⟨#[]⟩) (.int .i64 0) (.slice none 0 0) (.int .i64 t.line))) :=
  zi.of_set5 (B:=w.heap.size+1) 2 [] 0 t.line (U.out.trans A) (Nat.le_refl _) hr L (.inl ⟨rfl,rfl⟩) (Nat.lt_succ_self _) H
 clear A H M Z z y;go_wp2
 exact bodyPost_ret (v:=.agg #[.int .i64 2,.string ⟨#[]⟩,.int .i64 0,.slice none 0 0,.int .i64 t.line]) (by simp [results,Tryz.results168,go_sem,z0,z1,z2,z3,z4]) rfl HP.out
def Z0 (t:Tk) (res:PR Ex):PR Ex :=
 if zn t [40]=true then
  match res with
  | .error a=>.error a
  | .ok (e,us)=>if zn (zK us) [41]=true then .ok (e,us.tail) else .error (zK us).at0
 else .error t.at0
theorem yy (r g o cap:Nat) (t:Tk) (ts:List Tk) (w:World) (res:PR Ex) (hEnd:∀l us,res=.ok (l,us)→zh us) (hex:zn t [40]=true→∀w1 o1 cap1,zc r g o1 cap1 ts w1→zb r w w1→Calls Tryz.prog 74 #[.pointer (some ⟨r,0,none⟩)] w1 (zi r g w1 res)) (h:zc r g o cap (t::ts) w) (hE:zh (t::ts)) (hk1:t.k≠1) (hk2:t.k≠2) (hk3:t.k≠3) (hiT:zn t [116,114,117,101]=false) (hiF:zn t [102,97,108,115,101]=false) (hiN:zn t [110,101,119]=false) (hiB:zn t [91]=false) :
  Calls Tryz.prog 168 #[.pointer (some ⟨r,0,none⟩)] w (zi r g w (Z0 t res)):=by
 generalize hres:Z0 t res=R;have hr:=h.lt.1;have az:=h.lt.2;have h0:=h.alloc zA;have ch:=zZ r g o cap t ts _ h0;obtain ⟨w2,H⟩:∃w2,w2=((w.alloc zA).alloc (zE t)).alloc (zE t):=⟨_,rfl⟩;have h2:zc r g o cap (t::ts) w2:=by rw [H];exact (h0.alloc _).alloc _
 have k2:zb r w w2:=by rw [H];exact (((zb.refl r w).alloc _).alloc _).alloc _
 have n0:w2.heap[w.heap.size]?=some zA:=by
  rw [H,Below.heap_alloc _ _ _ (by simp;omega),Below.heap_alloc _ _ _ (by simp)]
  exact World.alloc_heap_new _ _
 have n2:w2.heap[w.heap.size+1+1]?=some (zE t):=by
  have hx:=World.alloc_heap_new ((w.alloc zA).alloc (zE t)) (zE t);rw [←H,show ((w.alloc zA).alloc (zE t)).heap.size=w.heap.size+1+1 by simp] at hx
  exact hx
 have aG:w.heap.size+1+1<w2.heap.size:=(Array.getElem?_eq_some_iff.1 n2).1;have aw:Hid (w2=((w.alloc zA).alloc (zE t)).alloc (zE t)):=H;have O:Hid (zb r w w2):=k2;have aA:Hid (w2.heap[w.heap.size]?=some zA):=n0;have aH:Hid (w2.heap[w.heap.size+1+1]?=some (zE t)):=n2;have aC:¬(t.k:Int)=1:=by omega
 have aB:¬(t.k:Int)=2:=by omega
 have aD:¬(t.k:Int)=3:=by omega
 clear h h0 H k2 n0 n2
 go_enter Tryz.func168,Tryz.ntmps168
 go_wp2_with fail
 refine ch.mono ?_;clear ch;rintro e w1 ⟨rfl,rfl⟩;simp only [YA];have X:Hid (zb r w2 w2):=zb.refl r w2;have aj:Hid (zc r g o cap (t::ts) w2):=h2;clear h2;have E:=zX r g o cap t ts [116,114,117,101] w2 aj.out (fun hi=>(hE.tail (zf hi)).ne)
 rw [hiT] at E;go_wp2_with fail
 rw [←aw.out];refine E.mono ?_;clear E;rintro e w3 ⟨rfl,y,z⟩;have af:Hid (zb r w2 w3):=X.out.trans y;have Y:Hid (zc r g o cap (t::ts) w3):=show zc _ _ _ _ _ _ by simpa using z
 clear y z X aj;clear aw;have E:=zX r g o cap t ts [102,97,108,115,101] w3 Y.out (fun hi=>(hE.tail (zf hi)).ne)
 rw [hiF] at E;go_wp2_with fail
 refine E.mono ?_;clear E;rintro e w4 ⟨rfl,y,z⟩;have ab:Hid (zb r w2 w4):=af.out.trans y;have aa:Hid (zc r g o cap (t::ts) w4):=show zc _ _ _ _ _ _ by simpa using z
 clear y z af Y;have E:=zX r g o cap t ts [110,101,119] w4 aa.out (fun hi=>(hE.tail (zf hi)).ne)
 rw [hiN] at E;go_wp2_with fail
 refine E.mono ?_;clear E;rintro e w5 ⟨rfl,y,z⟩;have ad:Hid (zb r w2 w5):=ab.out.trans y;have U:Hid (zc r g o cap (t::ts) w5):=show zc _ _ _ _ _ _ by simpa using z
 clear y z ab aa;have E:=zX r g o cap t ts [91] w5 U.out (fun hi=>(hE.tail (zf hi)).ne)
 rw [hiB] at E;go_wp2_with fail
 refine E.mono ?_;clear E;rintro e w6 ⟨rfl,y,z⟩;have L:Hid (zb r w2 w6):=ad.out.trans y;have ag:Hid (zc r g o cap (t::ts) w6):=show zc _ _ _ _ _ _ by simpa using z
 clear y z ad U;have G:=yP r g o cap t ts [40] w6 ag.out (fun hi=>(hE.tail (zf hi)).ne)
 by_cases hi:zn t [40]=true
 ·simp only [if_pos hi] at G
  go_wp2_with fail
  refine G.mono ?_;clear G;rintro e w9 ⟨y,rfl,au⟩;have am:zb r w2 w9:=L.out.trans y;have c9:=hex hi w9 _ _ au (O.out.trans am);have ap:Hid (zb r w2 w9):=am;clear hex y au am L ag;go_wp2_with fail
  refine c9.mono ?_;clear c9;rintro e I ⟨N,K⟩;have Z:Hid (zb r w2 I):=ap.out.trans N;rcases res with a | ⟨x,us⟩
  ·obtain rfl:=K
   obtain rfl:R=.error a:=by rw [←hres];unfold Z0;rw [if_pos hi]
   exact ⟨rfl,O.out.trans Z.out,rfl⟩
  ·obtain ⟨v,o3,ae,rfl,hx,ar⟩:=K
   obtain ⟨a,b,c,Q,M,S,l,rfl⟩:=hx.agg;have aq:=hEnd x us rfl;obtain ⟨t3,T,rfl⟩:=aq.cons;obtain ⟨w11,D⟩:∃w11,w11=I.alloc (.cells #[.int .i64 a,.string b,.int .i64 c,.slice Q M S,.int .i64 l] 90):=⟨_,rfl⟩;have ax:zc r g o3 ae (t3::T) w11:=by rw [D];exact ar.alloc _
   have al:w11.heap[I.heap.size]?=some (.cells #[.int .i64 a,.string b,.int .i64 c,.slice Q M S,.int .i64 l] 90 (0,0)):=by rw [D];exact World.alloc_heap_new _ _
   have ai:Hid (zb r w2 w11):=show zb _ _ _ by rw [D];exact Z.out.alloc _
   have V:zM w9.heap.size w11 x (.agg #[.int .i64 a,.string b,.int .i64 c,.slice Q M S,.int .i64 l]):=by rw [D];exact zM.kept hx (by simp) fun k _ hlt=>Below.heap_alloc _ _ _ hlt
   have av:Hid (zM w9.heap.size w11 x (.agg #[.int .i64 a,.string b,.int .i64 c,.slice Q M S,.int .i64 l])):=V;have ay:Hid (w11.heap[I.heap.size]?=some (.cells #[.int .i64 a,.string b,.int .i64 c,.slice Q M S,.int .i64 l] 90 (0,0))):=al;have G:=yP r g o3 ae t3 T [41] w11 ax (fun hi=>(aq.tail (zf hi)).ne)
   have J:Hid (w11=I.alloc (.cells #[.int .i64 a,.string b,.int .i64 c,.slice Q M S,.int .i64 l] 90)):=D;have aF:=ap.out.size;have aE:=N.size;have ak:I.heap.size<w11.heap.size:=(Array.getElem?_eq_some_iff.1 al).1;clear D ax al V hx ar N
   by_cases hm:zn t3 [41]=true
   ·simp only [if_pos hm] at G
    obtain rfl:R=.ok (x,T):=by rw [←hres];unfold Z0;rw [if_pos hi];simp only [zD,hm,if_true,List.tail_cons]
    go_wp2_with fail
    rw [←J.out];refine G.mono ?_;clear G J;rintro e ao ⟨A,rfl,W⟩;have an:=ai.out.trans A;have p0:=(an.block _ (by omega) (by omega)).trans aA.out
    have pB:=(A.block _ ak (by omega)).trans ay.out
    obtain ⟨c0,c1,c2,c3,c4,-⟩:=zr pB;obtain ⟨q0,q1,q2,q3,q4,qf⟩:=zr p0;obtain ⟨z0,z1,z2,z3,z4⟩:=zo p0 (.int .i64 a) (.string b) (.int .i64 c) (.slice Q M S) (.int .i64 l);have ah:zM w9.heap.size ao x (.agg #[.int .i64 a,.string b,.int .i64 c,.slice Q M S,.int .i64 l]):=zM.kept av.out A.size fun k hB hlt=>A.block k hlt (by omega)
    have HP:Hid (zi r g w (.ok (x,T)) (.returned (.agg #[.int .i64 a,.string b,.int .i64 c,.slice Q M S,.int .i64 l])) (set5 ao w.heap.size (.int .i64 a) (.string b) (.int .i64 c) (.slice Q M S) (.int .i64 l))) :=
     zi.of_set5' (O.out.trans an) (Nat.le_refl _) hr az ah (by omega) W
    clear an A W p0 pB ah;go_wp2
    exact bodyPost_ret (v:=.agg #[.int .i64 a,.string b,.int .i64 c,.slice Q M S,.int .i64 l]) (by simp [results,Tryz.results168,go_sem,z0,z1,z2,z3,z4]) rfl HP.out
   ·simp only [if_neg hm] at G
    obtain rfl:R=.error t3.at0:=by rw [←hres];unfold Z0;rw [if_pos hi];simp only [zD,if_neg hm]
    go_wp2_with fail
    rw [←J.out];refine G.mono ?_;clear G;rintro e ao ⟨A,rfl⟩;exact ⟨rfl,O.out.trans (ai.out.trans A),rfl⟩
 ·simp only [if_neg hi] at G
  obtain rfl:R=.error t.at0:=by rw [←hres];unfold Z0;rw [if_neg hi]
  clear hex hEnd;go_wp2_with fail
  refine G.mono ?_;clear G;rintro e w9 ⟨y,rfl⟩;exact ⟨rfl,O.out.trans (L.out.trans y),rfl⟩
end Go.Proofs.YtmbofhpmockmbaaGreatDoor
