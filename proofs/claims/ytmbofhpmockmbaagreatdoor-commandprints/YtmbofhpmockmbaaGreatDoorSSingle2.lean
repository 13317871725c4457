import Derived.Test.YtmbofhpmockmbaaGreatDoorMC15
namespace Go.Proofs.YtmbofhpmockmbaaGreatDoor
open Go.RowKit Go.Shelf
set_option maxHeartbeats 16000000
set_option maxRecDepth 100000
theorem Vo (r g o cap:Nat) (t:Tk) (ts:List Tk) (w:World) (hi:zk t [116,114,117,101]=true) (h:zj r g o cap (t::ts) w) (hE:zq (t::ts)) (hk1:t.k≠1) (hk2:t.k≠2) (hk3:t.k≠3)  :
  Calls Tryz.prog 168 #[.pointer (some ⟨r,0,none⟩)] w (zr r g w (.ok (.mk 2 [] 1 [] t.line,ts))):=by
 have hr:=h.lt.1;have M:=h.lt.2;have L:=h.alloc zJ;have Y:=ZD r g o cap t ts _ L;obtain ⟨w2,y⟩:∃w2,w2=((w.alloc zJ).alloc (Zc t)).alloc (Zc t):=⟨_,rfl⟩;have Z:zj r g o cap (t::ts) w2:=by rw [y];exact (L.alloc _).alloc _
 have V:zb r w w2:=by rw [y];exact (((zb.refl r w).alloc _).alloc _).alloc _
 have n0:w2.heap[w.heap.size]?=some zJ:=by
  rw [y,Below.heap_alloc _ _ _ (by simp;omega),Below.heap_alloc _ _ _ (by simp)]
  exact World.alloc_heap_new _ _
 have I:w2.heap[w.heap.size+1+1]?=some (Zc t):=by
  have X:=World.alloc_heap_new ((w.alloc zJ).alloc (Zc t)) (Zc t);rw [←y,show ((w.alloc zJ).alloc (Zc t)).heap.size=w.heap.size+1+1 by simp] at X
  exact X
 have K:w.heap.size+1+1<w2.heap.size:=(Array.getElem?_eq_some_iff.1 I).1;have N:Hid (w2=((w.alloc zJ).alloc (Zc t)).alloc (Zc t)):=y;have T:Hid (zb r w w2):=V;have O:Hid (w2.heap[w.heap.size]?=some zJ):=n0;have J:Hid (w2.heap[w.heap.size+1+1]?=some (Zc t)):=I;have aa:¬(t.k:Int)=1:=by omega
 have ab:¬(t.k:Int)=2:=by omega
 have U:¬(t.k:Int)=3:=by omega
 clear h L y V n0 I
 go_enter Tryz.func168,Tryz.ntmps168
 go_wp2_with fail
 refine Y.mono ?_;clear Y;rintro e w1 ⟨rfl,rfl⟩;simp only [YH];have A:Hid (zb r w2 w2):=zb.refl r w2;have D:Hid (zj r g o cap (t::ts) w2):=Z;clear Z;have Q:=ZA r g o cap t ts [116,114,117,101] w2 D.out (fun hi=>(hE.tail (zm hi)).ne)
 rw [hi] at Q;go_wp2_with fail
 rw [←N.out];refine Q.mono ?_;clear Q;rintro e w9 ⟨rfl,E,G⟩;have z:zb r w2 w9:=A.out.trans E;have H:zj r g (o+5) (cap-1) ts w9:=by simpa using G
 have R:=(z.block _ (by omega) (by omega)).trans O.out
 have W:=(z.block _ K (by omega)).trans J.out
 obtain ⟨c0,c1,c2,c3,c4,-⟩:=zd W;obtain ⟨q0,q1,q2,q3,q4,qf⟩:=zd R;obtain ⟨z0,z1,z2,z3,z4⟩:=zi R (.int .i64 2) (.string ⟨#[]⟩) (.int .i64 1) (.slice none 0 0) (.int .i64 t.line)
 have HP:Hid (zr r g w (.ok (.mk 2 [] 1 [] t.line,ts)) (.returned (.agg #[.int .i64 2,.string ⟨#[]⟩,.int .i64 1,.slice none 0 0,.int .i64 t.line])) (set5 w9 w.heap.size (.int .i64 2) (.string ⟨#[]⟩) (.int .i64 1) (.slice none 0 0) (.int .i64 t.line))) :=
  zr.of_set5 (B:=w.heap.size+1) 2 [] 1 t.line (T.out.trans z) (Nat.le_refl _) hr M (.inl ⟨rfl,rfl⟩) (Nat.lt_succ_self _) H
 clear z H R W E G;go_wp2
 exact bodyPost_ret (v:=.agg #[.int .i64 2,.string ⟨#[]⟩,.int .i64 1,.slice none 0 0,.int .i64 t.line]) (by simp [results,Tryz.results168,go_sem,z0,z1,z2,z3,z4]) rfl HP.out
theorem vq (r g o cap:Nat) (t:Tk) (ts:List Tk) (w:World) (hi:zk t [102,97,108,115,101]=true) (h:zj r g o cap (t::ts) w) (hE:zq (t::ts)) (hk1:t.k≠1) (hk2:t.k≠2) (hk3:t.k≠3) (hiT:zk t [116,114,117,101]=false) :
  Calls Tryz.prog 168 #[.pointer (some ⟨r,0,none⟩)] w (zr r g w (.ok (.mk 2 [] 0 [] t.line,ts))):=by
 have hr:=h.lt.1;have T:=h.lt.2;have R:=h.alloc zJ;have ch:=ZD r g o cap t ts _ R;obtain ⟨w2,y⟩:∃w2,w2=((w.alloc zJ).alloc (Zc t)).alloc (Zc t):=⟨_,rfl⟩;have h2:zj r g o cap (t::ts) w2:=by rw [y];exact (R.alloc _).alloc _
 have Y:zb r w w2:=by rw [y];exact (((zb.refl r w).alloc _).alloc _).alloc _
 have n0:w2.heap[w.heap.size]?=some zJ:=by
  rw [y,Below.heap_alloc _ _ _ (by simp;omega),Below.heap_alloc _ _ _ (by simp)]
  exact World.alloc_heap_new _ _
 have M:w2.heap[w.heap.size+1+1]?=some (Zc t):=by
  have hx:=World.alloc_heap_new ((w.alloc zJ).alloc (Zc t)) (Zc t);rw [←y,show ((w.alloc zJ).alloc (Zc t)).heap.size=w.heap.size+1+1 by simp] at hx
  exact hx
 have O:w.heap.size+1+1<w2.heap.size:=(Array.getElem?_eq_some_iff.1 M).1;have J:Hid (w2=((w.alloc zJ).alloc (Zc t)).alloc (Zc t)):=y;have W:Hid (zb r w w2):=Y;have U:Hid (w2.heap[w.heap.size]?=some zJ):=n0;have N:Hid (w2.heap[w.heap.size+1+1]?=some (Zc t)):=M;have aa:¬(t.k:Int)=1:=by omega
 have ab:¬(t.k:Int)=2:=by omega
 have X:¬(t.k:Int)=3:=by omega
 clear h R y Y n0 M
 go_enter Tryz.func168,Tryz.ntmps168
 go_wp2_with fail
 refine ch.mono ?_;clear ch;rintro e w1 ⟨rfl,rfl⟩;simp only [YH];have E:Hid (zb r w2 w2):=zb.refl r w2;have G:Hid (zj r g o cap (t::ts) w2):=h2;clear h2;have H:=ZA r g o cap t ts [116,114,117,101] w2 G.out (fun hi=>(hE.tail (zm hi)).ne)
 rw [hiT] at H;go_wp2_with fail
 rw [←J.out];refine H.mono ?_;clear H;rintro e Q ⟨rfl,z,A⟩;have K:Hid (zb r w2 Q):=E.out.trans z;have L:Hid (zj r g o cap (t::ts) Q):=show zj _ _ _ _ _ _ by simpa using A
 clear z A E G;clear J;have H:=ZA r g o cap t ts [102,97,108,115,101] Q L.out (fun hi=>(hE.tail (zm hi)).ne)
 rw [hi] at H;go_wp2_with fail
 refine H.mono ?_;clear H;rintro e w9 ⟨rfl,z,A⟩;have D:zb r w2 w9:=K.out.trans z;have I:zj r g (o+5) (cap-1) ts w9:=by simpa using A
 have V:=(D.block _ (by omega) (by omega)).trans U.out
 have Z:=(D.block _ O (by omega)).trans N.out
 obtain ⟨c0,c1,c2,c3,c4,-⟩:=zd Z;obtain ⟨q0,q1,q2,q3,q4,qf⟩:=zd V;obtain ⟨z0,z1,z2,z3,z4⟩:=zi V (.int .i64 2) (.string ⟨#[]⟩) (.int .i64 0) (.slice none 0 0) (.int .i64 t.line)
 have HP:Hid (zr r g w (.ok (.mk 2 [] 0 [] t.line,ts)) (.returned (.agg #[.int .i64 2,.string ⟨#[]⟩,.int .i64 0,.slice none 0 0,.int .i64 t.line])) (set5 w9 w.heap.size (.int .i64 2) (.string ⟨#[]⟩) (.int .i64 0) (.slice none 0 0) (.int .i64 t.line))) :=
  zr.of_set5 (B:=w.heap.size+1) 2 [] 0 t.line (W.out.trans D) (Nat.le_refl _) hr T (.inl ⟨rfl,rfl⟩) (Nat.lt_succ_self _) I
 clear D I V Z z A;go_wp2
 exact bodyPost_ret (v:=.agg #[.int .i64 2,.string ⟨#[]⟩,.int .i64 0,.slice none 0 0,.int .i64 t.line]) (by simp [results,Tryz.results168,go_sem,z0,z1,z2,z3,z4]) rfl HP.out
def Yb (t:Tk) (res:PR Ex):PR Ex :=
 if zk t [40]=true then
  match res with
  | .error a=>.error a
  | .ok (e,us)=>if zk (zu us) [41]=true then .ok (e,us.tail) else .error (zu us).at0
 else .error t.at0
theorem Y6 (r g o cap:Nat) (t:Tk) (ts:List Tk) (w:World) (res:PR Ex) (hEnd:∀l us,res=.ok (l,us)→zq us) (hex:zk t [40]=true→∀w1 o1 cap1,zj r g o1 cap1 ts w1→zb r w w1→Calls Tryz.prog 74 #[.pointer (some ⟨r,0,none⟩)] w1 (zr r g w1 res)) (h:zj r g o cap (t::ts) w) (hE:zq (t::ts)) (hk1:t.k≠1) (hk2:t.k≠2) (hk3:t.k≠3) (hiT:zk t [116,114,117,101]=false) (hiF:zk t [102,97,108,115,101]=false) (hiN:zk t [110,101,119]=false) (hiB:zk t [91]=false) :
  Calls Tryz.prog 168 #[.pointer (some ⟨r,0,none⟩)] w (zr r g w (Yb t res)):=by
 generalize hres:Yb t res=R;have hr:=h.lt.1;have aA:=h.lt.2;have h0:=h.alloc zJ;have ch:=ZD r g o cap t ts _ h0;obtain ⟨w2,I⟩:∃w2,w2=((w.alloc zJ).alloc (Zc t)).alloc (Zc t):=⟨_,rfl⟩;have h2:zj r g o cap (t::ts) w2:=by rw [I];exact (h0.alloc _).alloc _
 have k2:zb r w w2:=by rw [I];exact (((zb.refl r w).alloc _).alloc _).alloc _
 have n0:w2.heap[w.heap.size]?=some zJ:=by
  rw [I,Below.heap_alloc _ _ _ (by simp;omega),Below.heap_alloc _ _ _ (by simp)]
  exact World.alloc_heap_new _ _
 have n2:w2.heap[w.heap.size+1+1]?=some (Zc t):=by
  have hx:=World.alloc_heap_new ((w.alloc zJ).alloc (Zc t)) (Zc t);rw [←I,show ((w.alloc zJ).alloc (Zc t)).heap.size=w.heap.size+1+1 by simp] at hx
  exact hx
 have aH:w.heap.size+1+1<w2.heap.size:=(Array.getElem?_eq_some_iff.1 n2).1;have au:Hid (w2=((w.alloc zJ).alloc (Zc t)).alloc (Zc t)):=I;have O:Hid (zb r w w2):=k2;have aB:Hid (w2.heap[w.heap.size]?=some zJ):=n0;have aG:Hid (w2.heap[w.heap.size+1+1]?=some (Zc t)):=n2;have aE:¬(t.k:Int)=1:=by omega
 have aF:¬(t.k:Int)=2:=by omega
 have aC:¬(t.k:Int)=3:=by omega
 clear h h0 I k2 n0 n2
 go_enter Tryz.func168,Tryz.ntmps168
 go_wp2_with fail
 refine ch.mono ?_;clear ch;rintro e w1 ⟨rfl,rfl⟩;simp only [YH];have X:Hid (zb r w2 w2):=zb.refl r w2;have ag:Hid (zj r g o cap (t::ts) w2):=h2;clear h2;have E:=ZA r g o cap t ts [116,114,117,101] w2 ag.out (fun hi=>(hE.tail (zm hi)).ne)
 rw [hiT] at E;go_wp2_with fail
 rw [←au.out];refine E.mono ?_;clear E;rintro e w3 ⟨rfl,y,z⟩;have aj:Hid (zb r w2 w3):=X.out.trans y;have ak:Hid (zj r g o cap (t::ts) w3):=show zj _ _ _ _ _ _ by simpa using z
 clear y z X ag;clear au;have E:=ZA r g o cap t ts [102,97,108,115,101] w3 ak.out (fun hi=>(hE.tail (zm hi)).ne)
 rw [hiF] at E;go_wp2_with fail
 refine E.mono ?_;clear E;rintro e w4 ⟨rfl,y,z⟩;have Z:Hid (zb r w2 w4):=aj.out.trans y;have Y:Hid (zj r g o cap (t::ts) w4):=show zj _ _ _ _ _ _ by simpa using z
 clear y z aj ak;have E:=ZA r g o cap t ts [110,101,119] w4 Y.out (fun hi=>(hE.tail (zm hi)).ne)
 rw [hiN] at E;go_wp2_with fail
 refine E.mono ?_;clear E;rintro e w5 ⟨rfl,y,z⟩;have ab:Hid (zb r w2 w5):=Z.out.trans y;have ae:Hid (zj r g o cap (t::ts) w5):=show zj _ _ _ _ _ _ by simpa using z
 clear y z Z Y;have E:=ZA r g o cap t ts [91] w5 ae.out (fun hi=>(hE.tail (zm hi)).ne)
 rw [hiB] at E;go_wp2_with fail
 refine E.mono ?_;clear E;rintro e w6 ⟨rfl,y,z⟩;have J:Hid (zb r w2 w6):=ab.out.trans y;have ad:Hid (zj r g o cap (t::ts) w6):=show zj _ _ _ _ _ _ by simpa using z
 clear y z ab ae;have G:=xL r g o cap t ts [40] w6 ad.out (fun hi=>(hE.tail (zm hi)).ne)
 by_cases hi:zk t [40]=true
 ·simp only [if_pos hi] at G
  go_wp2_with fail
  refine G.mono ?_;clear G;rintro e w9 ⟨y,rfl,ar⟩;have al:zb r w2 w9:=J.out.trans y;have c9:=hex hi w9 _ _ ar (O.out.trans al);have av:Hid (zb r w2 w9):=al;clear hex y ar al J ad;go_wp2_with fail
  refine c9.mono ?_;clear c9;rintro e H ⟨M,L⟩;have ah:Hid (zb r w2 H):=av.out.trans M;rcases res with a | ⟨x,us⟩
  ·obtain rfl:=L
   obtain rfl:R=.error a:=by rw [←hres];unfold Yb;rw [if_pos hi]
   exact ⟨rfl,O.out.trans ah.out,rfl⟩
  ·obtain ⟨v,o3,V,rfl,hx,aw⟩:=L
   obtain ⟨a,b,c,N,T,Q,l,rfl⟩:=hx.agg;have aq:=hEnd x us rfl;obtain ⟨t3,U,rfl⟩:=aq.cons;obtain ⟨w11,D⟩:∃w11,w11=H.alloc (.cells #[.int .i64 a,.string b,.int .i64 c,.slice N T Q,.int .i64 l] 90):=⟨_,rfl⟩;have ax:zj r g o3 V (t3::U) w11:=by rw [D];exact aw.alloc _
   have am:w11.heap[H.heap.size]?=some (.cells #[.int .i64 a,.string b,.int .i64 c,.slice N T Q,.int .i64 l] 90 (0,0)):=by rw [D];exact World.alloc_heap_new _ _
   have aa:Hid (zb r w2 w11):=show zb _ _ _ by rw [D];exact ah.out.alloc _
   have af:zM w9.heap.size w11 x (.agg #[.int .i64 a,.string b,.int .i64 c,.slice N T Q,.int .i64 l]):=by rw [D];exact zM.kept hx (by simp) fun k _ hlt=>Below.heap_alloc _ _ _ hlt
   have ay:Hid (zM w9.heap.size w11 x (.agg #[.int .i64 a,.string b,.int .i64 c,.slice N T Q,.int .i64 l])):=af;have az:Hid (w11.heap[H.heap.size]?=some (.cells #[.int .i64 a,.string b,.int .i64 c,.slice N T Q,.int .i64 l] 90 (0,0))):=am;have G:=xL r g o3 V t3 U [41] w11 ax (fun hi=>(aq.tail (zm hi)).ne)
   have K:Hid (w11=H.alloc (.cells #[.int .i64 a,.string b,.int .i64 c,.slice N T Q,.int .i64 l] 90)):=D;have aI:=av.out.size;have aD:=M.size;have ao:H.heap.size<w11.heap.size:=(Array.getElem?_eq_some_iff.1 am).1;clear D ax am af hx aw M
   by_cases hm:zk t3 [41]=true
   ·simp only [if_pos hm] at G
    obtain rfl:R=.ok (x,U):=by rw [←hres];unfold Yb;rw [if_pos hi];simp only [zX,hm,if_true,List.tail_cons]
    go_wp2_with fail
    rw [←K.out];refine G.mono ?_;clear G K;rintro e an ⟨A,rfl,W⟩;have ap:=aa.out.trans A;have p0:=(ap.block _ (by omega) (by omega)).trans aB.out
    have pB:=(A.block _ ao (by omega)).trans az.out
    obtain ⟨c0,c1,c2,c3,c4,-⟩:=zd pB;obtain ⟨q0,q1,q2,q3,q4,qf⟩:=zd p0;obtain ⟨z0,z1,z2,z3,z4⟩:=zi p0 (.int .i64 a) (.string b) (.int .i64 c) (.slice N T Q) (.int .i64 l);have ai:zM w9.heap.size an x (.agg #[.int .i64 a,.string b,.int .i64 c,.slice N T Q,.int .i64 l]):=zM.kept ay.out A.size fun k hB hlt=>A.block k hlt (by omega)
    have HP:Hid (zr r g w (.ok (x,U)) (.returned (.agg #[.int .i64 a,.string b,.int .i64 c,.slice N T Q,.int .i64 l])) (set5 an w.heap.size (.int .i64 a) (.string b) (.int .i64 c) (.slice N T Q) (.int .i64 l))) :=
     zr.of_set5' (O.out.trans ap) (Nat.le_refl _) hr aA ai (by omega) W
    clear ap A W p0 pB ai;go_wp2
    exact bodyPost_ret (v:=.agg #[.int .i64 a,.string b,.int .i64 c,.slice N T Q,.int .i64 l]) (by simp [results,Tryz.results168,go_sem,z0,z1,z2,z3,z4]) rfl HP.out
   ·simp only [if_neg hm] at G
    obtain rfl:R=.error t3.at0:=by rw [←hres];unfold Yb;rw [if_pos hi];simp only [zX,if_neg hm]
    go_wp2_with fail
    rw [←K.out];refine G.mono ?_;clear G;rintro e an ⟨A,rfl⟩;exact ⟨rfl,O.out.trans (aa.out.trans A),rfl⟩
 ·simp only [if_neg hi] at G
  obtain rfl:R=.error t.at0:=by rw [←hres];unfold Yb;rw [if_neg hi]
  clear hex hEnd;go_wp2_with fail
  refine G.mono ?_;clear G;rintro e w9 ⟨y,rfl⟩;exact ⟨rfl,O.out.trans (J.out.trans y),rfl⟩
end Go.Proofs.YtmbofhpmockmbaaGreatDoor
