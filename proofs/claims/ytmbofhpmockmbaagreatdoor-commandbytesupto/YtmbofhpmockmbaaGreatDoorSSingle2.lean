import Derived.Test.YtmbofhpmockmbaaGreatDoorMC22
namespace Go.Proofs.YtmbofhpmockmbaaGreatDoor
open Go.RowKit Go.Shelf
set_option maxHeartbeats 16000000
set_option maxRecDepth 100000
theorem Xk (r g o cap:Nat) (t:Tk) (ts:List Tk) (w:World) (hi:zp t [116,114,117,101]=true) (h:zc r g o cap (t::ts) w) (hE:zj (t::ts)) (hk1:t.k≠1) (hk2:t.k≠2) (hk3:t.k≠3)  :
  Calls Tryz.prog 168 #[.pointer (some ⟨r,0,none⟩)] w (zk r g w (.ok (.mk 2 [] 1 [] t.line,ts))):=by
 have hr:=h.lt.1;have N:=h.lt.2;have Q:=h.alloc zD;have Y:=Zd r g o cap t ts _ Q;obtain ⟨w2,y⟩:∃w2,w2=((w.alloc zD).alloc (zH t)).alloc (zH t):=⟨_,rfl⟩;have U:zc r g o cap (t::ts) w2:=by rw [y];exact (Q.alloc _).alloc _
 have k2:zb r w w2:=by rw [y];exact (((zb.refl r w).alloc _).alloc _).alloc _
 have V:w2.heap[w.heap.size]?=some zD:=by
  rw [y,Below.heap_alloc _ _ _ (by simp;omega),Below.heap_alloc _ _ _ (by simp)]
  exact World.alloc_heap_new _ _
 have I:w2.heap[w.heap.size+1+1]?=some (zH t):=by
  have hx:=World.alloc_heap_new ((w.alloc zD).alloc (zH t)) (zH t);rw [←y,show ((w.alloc zD).alloc (zH t)).heap.size=w.heap.size+1+1 by simp] at hx
  exact hx
 have R:w.heap.size+1+1<w2.heap.size:=(Array.getElem?_eq_some_iff.1 I).1;have T:Hid (w2=((w.alloc zD).alloc (zH t)).alloc (zH t)):=y;have J:Hid (zb r w w2):=k2;have K:Hid (w2.heap[w.heap.size]?=some zD):=V;have M:Hid (w2.heap[w.heap.size+1+1]?=some (zH t)):=I;have W:¬(t.k:Int)=1:=by omega
 have Z:¬(t.k:Int)=2:=by omega
 have X:¬(t.k:Int)=3:=by omega
 clear h Q y k2 V I
 go_enter Tryz.func168,Tryz.ntmps168
 go_wp2_with fail
 refine Y.mono ?_;clear Y;rintro e w1 ⟨rfl,rfl⟩;simp only [xq];have A:Hid (zb r w2 w2):=zb.refl r w2;have D:Hid (zc r g o cap (t::ts) w2):=U;clear U;have L:=Zb r g o cap t ts [116,114,117,101] w2 D.out (fun hi=>(hE.tail (zf hi)).ne)
 rw [hi] at L;go_wp2_with fail
 rw [←T.out];refine L.mono ?_;clear L;rintro e w9 ⟨rfl,H,E⟩;have z:zb r w2 w9:=A.out.trans H;have G:zc r g (o+5) (cap-1) ts w9:=by simpa using E
 have O:=(z.block _ (by omega) (by omega)).trans K.out
 have p2:=(z.block _ R (by omega)).trans M.out
 obtain ⟨c0,c1,c2,c3,c4,-⟩:=zt p2;obtain ⟨q0,q1,q2,q3,q4,qf⟩:=zt O;obtain ⟨z0,z1,z2,z3,z4⟩:=zq O (.int .i64 2) (.string ⟨#[]⟩) (.int .i64 1) (.slice none 0 0) (.int .i64 t.line)
 have HP:Hid (zk r g w (.ok (.mk 2 [] 1 [] t.line,ts)) (.returned (.agg #[.int .i64 2,.string ⟨#[]⟩,.int .i64 1,.slice none 0 0,.int .i64 t.line])) (set5 w9 w.heap.size (.int .i64 2) (.string ⟨#[]⟩) (.int .i64 1) (.slice none 0 0) (.int .i64 t.line))) :=
  zk.of_set5 (B:=w.heap.size+1) 2 [] 1 t.line (J.out.trans z) (Nat.le_refl _) hr N (.inl ⟨rfl,rfl⟩) (Nat.lt_succ_self _) G
 clear z G O p2 H E;go_wp2
 exact bodyPost_ret (v:=.agg #[.int .i64 2,.string ⟨#[]⟩,.int .i64 1,.slice none 0 0,.int .i64 t.line]) (by simp [results,Tryz.results168,go_sem,z0,z1,z2,z3,z4]) rfl HP.out
theorem xA (r g o cap:Nat) (t:Tk) (ts:List Tk) (w:World) (hi:zp t [102,97,108,115,101]=true) (h:zc r g o cap (t::ts) w) (hE:zj (t::ts)) (hk1:t.k≠1) (hk2:t.k≠2) (hk3:t.k≠3) (hiT:zp t [116,114,117,101]=false) :
  Calls Tryz.prog 168 #[.pointer (some ⟨r,0,none⟩)] w (zk r g w (.ok (.mk 2 [] 0 [] t.line,ts))):=by
 have hr:=h.lt.1;have R:=h.lt.2;have U:=h.alloc zD;have ch:=Zd r g o cap t ts _ U;obtain ⟨w2,y⟩:∃w2,w2=((w.alloc zD).alloc (zH t)).alloc (zH t):=⟨_,rfl⟩;have X:zc r g o cap (t::ts) w2:=by rw [y];exact (U.alloc _).alloc _
 have k2:zb r w w2:=by rw [y];exact (((zb.refl r w).alloc _).alloc _).alloc _
 have Y:w2.heap[w.heap.size]?=some zD:=by
  rw [y,Below.heap_alloc _ _ _ (by simp;omega),Below.heap_alloc _ _ _ (by simp)]
  exact World.alloc_heap_new _ _
 have M:w2.heap[w.heap.size+1+1]?=some (zH t):=by
  have hx:=World.alloc_heap_new ((w.alloc zD).alloc (zH t)) (zH t);rw [←y,show ((w.alloc zD).alloc (zH t)).heap.size=w.heap.size+1+1 by simp] at hx
  exact hx
 have W:w.heap.size+1+1<w2.heap.size:=(Array.getElem?_eq_some_iff.1 M).1;have L:Hid (w2=((w.alloc zD).alloc (zH t)).alloc (zH t)):=y;have N:Hid (zb r w w2):=k2;have O:Hid (w2.heap[w.heap.size]?=some zD):=Y;have Q:Hid (w2.heap[w.heap.size+1+1]?=some (zH t)):=M;have Z:¬(t.k:Int)=1:=by omega
 have ab:¬(t.k:Int)=2:=by omega
 have aa:¬(t.k:Int)=3:=by omega
 clear h U y k2 Y M
 go_enter Tryz.func168,Tryz.ntmps168
 go_wp2_with fail
 refine ch.mono ?_;clear ch;rintro e w1 ⟨rfl,rfl⟩;simp only [xq];have E:Hid (zb r w2 w2):=zb.refl r w2;have G:Hid (zc r g o cap (t::ts) w2):=X;clear X;have H:=Zb r g o cap t ts [116,114,117,101] w2 G.out (fun hi=>(hE.tail (zf hi)).ne)
 rw [hiT] at H;go_wp2_with fail
 rw [←L.out];refine H.mono ?_;clear H;rintro e V ⟨rfl,A,z⟩;have K:Hid (zb r w2 V):=E.out.trans A;have I:Hid (zc r g o cap (t::ts) V):=show zc _ _ _ _ _ _ by simpa using z
 clear A z E G;clear L;have H:=Zb r g o cap t ts [102,97,108,115,101] V I.out (fun hi=>(hE.tail (zf hi)).ne)
 rw [hi] at H;go_wp2_with fail
 refine H.mono ?_;clear H;rintro e w9 ⟨rfl,A,z⟩;have D:zb r w2 w9:=K.out.trans A;have J:zc r g (o+5) (cap-1) ts w9:=by simpa using z
 have T:=(D.block _ (by omega) (by omega)).trans O.out
 have p2:=(D.block _ W (by omega)).trans Q.out
 obtain ⟨c0,c1,c2,c3,c4,-⟩:=zt p2;obtain ⟨q0,q1,q2,q3,q4,qf⟩:=zt T;obtain ⟨z0,z1,z2,z3,z4⟩:=zq T (.int .i64 2) (.string ⟨#[]⟩) (.int .i64 0) (.slice none 0 0) (.int .i64 t.line)
 have HP:Hid (zk r g w (.ok (.mk 2 [] 0 [] t.line,ts)) (.returned (.agg #[.int .i64 2,.string ⟨#[]⟩,.int .i64 0,.slice none 0 0,.int .i64 t.line])) (set5 w9 w.heap.size (.int .i64 2) (.string ⟨#[]⟩) (.int .i64 0) (.slice none 0 0) (.int .i64 t.line))) :=
  zk.of_set5 (B:=w.heap.size+1) 2 [] 0 t.line (N.out.trans D) (Nat.le_refl _) hr R (.inl ⟨rfl,rfl⟩) (Nat.lt_succ_self _) J
 clear D J T p2 A z;go_wp2
 exact bodyPost_ret (v:=.agg #[.int .i64 2,.string ⟨#[]⟩,.int .i64 0,.slice none 0 0,.int .i64 t.line]) (by simp [results,Tryz.results168,go_sem,z0,z1,z2,z3,z4]) rfl HP.out
def yl (t:Tk) (res:PR Ex):PR Ex :=
 if zp t [40]=true then
  match res with
  | .error a=>.error a
  | .ok (e,us)=>if zp (zM us) [41]=true then .ok (e,us.tail) else .error (zM us).at0
 else .error t.at0
theorem y4 (r g o cap:Nat) (t:Tk) (ts:List Tk) (w:World) (res:PR Ex) (hEnd:∀l us,res=.ok (l,us)→zj us) (hex:zp t [40]=true→∀w1 o1 cap1,zc r g o1 cap1 ts w1→zb r w w1→Calls Tryz.prog 74 #[.pointer (some ⟨r,0,none⟩)] w1 (zk r g w1 res)) (h:zc r g o cap (t::ts) w) (hE:zj (t::ts)) (hk1:t.k≠1) (hk2:t.k≠2) (hk3:t.k≠3) (hiT:zp t [116,114,117,101]=false) (hiF:zp t [102,97,108,115,101]=false) (hiN:zp t [110,101,119]=false) (hiB:zp t [91]=false) :
  Calls Tryz.prog 168 #[.pointer (some ⟨r,0,none⟩)] w (zk r g w (yl t res)):=by
 generalize hres:yl t res=R;have hr:=h.lt.1;have aB:=h.lt.2;have h0:=h.alloc zD;have ch:=Zd r g o cap t ts _ h0;obtain ⟨w2,I⟩:∃w2,w2=((w.alloc zD).alloc (zH t)).alloc (zH t):=⟨_,rfl⟩;have h2:zc r g o cap (t::ts) w2:=by rw [I];exact (h0.alloc _).alloc _
 have k2:zb r w w2:=by rw [I];exact (((zb.refl r w).alloc _).alloc _).alloc _
 have n0:w2.heap[w.heap.size]?=some zD:=by
  rw [I,Below.heap_alloc _ _ _ (by simp;omega),Below.heap_alloc _ _ _ (by simp)]
  exact World.alloc_heap_new _ _
 have n2:w2.heap[w.heap.size+1+1]?=some (zH t):=by
  have hx:=World.alloc_heap_new ((w.alloc zD).alloc (zH t)) (zH t);rw [←I,show ((w.alloc zD).alloc (zH t)).heap.size=w.heap.size+1+1 by simp] at hx
  exact hx
 have aI:w.heap.size+1+1<w2.heap.size:=(Array.getElem?_eq_some_iff.1 n2).1;have az:Hid (w2=((w.alloc zD).alloc (zH t)).alloc (zH t)):=I;have J:Hid (zb r w w2):=k2;have aA:Hid (w2.heap[w.heap.size]?=some zD):=n0;have aH:Hid (w2.heap[w.heap.size+1+1]?=some (zH t)):=n2;have aD:¬(t.k:Int)=1:=by omega
 have aC:¬(t.k:Int)=2:=by omega
 have aE:¬(t.k:Int)=3:=by omega
 clear h h0 I k2 n0 n2
 go_enter Tryz.func168,Tryz.ntmps168
 go_wp2_with fail
 refine ch.mono ?_;clear ch;rintro e w1 ⟨rfl,rfl⟩;simp only [xq];have W:Hid (zb r w2 w2):=zb.refl r w2;have ai:Hid (zc r g o cap (t::ts) w2):=h2;clear h2;have E:=Zb r g o cap t ts [116,114,117,101] w2 ai.out (fun hi=>(hE.tail (zf hi)).ne)
 rw [hiT] at E;go_wp2_with fail
 rw [←az.out];refine E.mono ?_;clear E;rintro e w3 ⟨rfl,y,z⟩;have ak:Hid (zb r w2 w3):=W.out.trans y;have af:Hid (zc r g o cap (t::ts) w3):=show zc _ _ _ _ _ _ by simpa using z
 clear y z W ai;clear az;have E:=Zb r g o cap t ts [102,97,108,115,101] w3 af.out (fun hi=>(hE.tail (zf hi)).ne)
 rw [hiF] at E;go_wp2_with fail
 refine E.mono ?_;clear E;rintro e w4 ⟨rfl,y,z⟩;have aa:Hid (zb r w2 w4):=ak.out.trans y;have ab:Hid (zc r g o cap (t::ts) w4):=show zc _ _ _ _ _ _ by simpa using z
 clear y z ak af;have E:=Zb r g o cap t ts [110,101,119] w4 ab.out (fun hi=>(hE.tail (zf hi)).ne)
 rw [hiN] at E;go_wp2_with fail
 refine E.mono ?_;clear E;rintro e w5 ⟨rfl,y,z⟩;have ad:Hid (zb r w2 w5):=aa.out.trans y;have X:Hid (zc r g o cap (t::ts) w5):=show zc _ _ _ _ _ _ by simpa using z
 clear y z aa ab;have E:=Zb r g o cap t ts [91] w5 X.out (fun hi=>(hE.tail (zf hi)).ne)
 rw [hiB] at E;go_wp2_with fail
 refine E.mono ?_;clear E;rintro e w6 ⟨rfl,y,z⟩;have M:Hid (zb r w2 w6):=ad.out.trans y;have Y:Hid (zc r g o cap (t::ts) w6):=show zc _ _ _ _ _ _ by simpa using z
 clear y z ad X;have G:=Yo r g o cap t ts [40] w6 Y.out (fun hi=>(hE.tail (zf hi)).ne)
 by_cases hi:zp t [40]=true
 ·simp only [if_pos hi] at G
  go_wp2_with fail
  refine G.mono ?_;clear G;rintro e w9 ⟨y,rfl,aw⟩;have ao:zb r w2 w9:=M.out.trans y;have c9:=hex hi w9 _ _ aw (J.out.trans ao);have av:Hid (zb r w2 w9):=ao;clear hex y aw ao M Y;go_wp2_with fail
  refine c9.mono ?_;clear c9;rintro e H ⟨T,L⟩;have ae:Hid (zb r w2 H):=av.out.trans T;rcases res with a | ⟨x,us⟩
  ·obtain rfl:=L
   obtain rfl:R=.error a:=by rw [←hres];unfold yl;rw [if_pos hi]
   exact ⟨rfl,J.out.trans ae.out,rfl⟩
  ·obtain ⟨v,o3,aj,rfl,hx,ax⟩:=L
   obtain ⟨a,b,c,N,O,Q,l,rfl⟩:=hx.agg;have aq:=hEnd x us rfl;obtain ⟨t3,U,rfl⟩:=aq.cons;obtain ⟨w11,D⟩:∃w11,w11=H.alloc (.cells #[.int .i64 a,.string b,.int .i64 c,.slice N O Q,.int .i64 l] 90):=⟨_,rfl⟩;have ay:zc r g o3 aj (t3::U) w11:=by rw [D];exact ax.alloc _
   have al:w11.heap[H.heap.size]?=some (.cells #[.int .i64 a,.string b,.int .i64 c,.slice N O Q,.int .i64 l] 90 (0,0)):=by rw [D];exact World.alloc_heap_new _ _
   have ah:Hid (zb r w2 w11):=show zb _ _ _ by rw [D];exact ae.out.alloc _
   have Z:zQ w9.heap.size w11 x (.agg #[.int .i64 a,.string b,.int .i64 c,.slice N O Q,.int .i64 l]):=by rw [D];exact zQ.kept hx (by simp) fun k _ hlt=>Below.heap_alloc _ _ _ hlt
   have ar:Hid (zQ w9.heap.size w11 x (.agg #[.int .i64 a,.string b,.int .i64 c,.slice N O Q,.int .i64 l])):=Z;have au:Hid (w11.heap[H.heap.size]?=some (.cells #[.int .i64 a,.string b,.int .i64 c,.slice N O Q,.int .i64 l] 90 (0,0))):=al;have G:=Yo r g o3 aj t3 U [41] w11 ay (fun hi=>(aq.tail (zf hi)).ne)
   have K:Hid (w11=H.alloc (.cells #[.int .i64 a,.string b,.int .i64 c,.slice N O Q,.int .i64 l] 90)):=D;have aG:=av.out.size;have aF:=T.size;have am:H.heap.size<w11.heap.size:=(Array.getElem?_eq_some_iff.1 al).1;clear D ay al Z hx ax T
   by_cases hm:zp t3 [41]=true
   ·simp only [if_pos hm] at G
    obtain rfl:R=.ok (x,U):=by rw [←hres];unfold yl;rw [if_pos hi];simp only [zG,hm,if_true,List.tail_cons]
    go_wp2_with fail
    rw [←K.out];refine G.mono ?_;clear G K;rintro e ap ⟨A,rfl,ag⟩;have an:=ah.out.trans A;have p0:=(an.block _ (by omega) (by omega)).trans aA.out
    have pB:=(A.block _ am (by omega)).trans au.out
    obtain ⟨c0,c1,c2,c3,c4,-⟩:=zt pB;obtain ⟨q0,q1,q2,q3,q4,qf⟩:=zt p0;obtain ⟨z0,z1,z2,z3,z4⟩:=zq p0 (.int .i64 a) (.string b) (.int .i64 c) (.slice N O Q) (.int .i64 l);have V:zQ w9.heap.size ap x (.agg #[.int .i64 a,.string b,.int .i64 c,.slice N O Q,.int .i64 l]):=zQ.kept ar.out A.size fun k hB hlt=>A.block k hlt (by omega)
    have HP:Hid (zk r g w (.ok (x,U)) (.returned (.agg #[.int .i64 a,.string b,.int .i64 c,.slice N O Q,.int .i64 l])) (set5 ap w.heap.size (.int .i64 a) (.string b) (.int .i64 c) (.slice N O Q) (.int .i64 l))) :=
     zk.of_set5' (J.out.trans an) (Nat.le_refl _) hr aB V (by omega) ag
    clear an A ag p0 pB V;go_wp2
    exact bodyPost_ret (v:=.agg #[.int .i64 a,.string b,.int .i64 c,.slice N O Q,.int .i64 l]) (by simp [results,Tryz.results168,go_sem,z0,z1,z2,z3,z4]) rfl HP.out
   ·simp only [if_neg hm] at G
    obtain rfl:R=.error t3.at0:=by rw [←hres];unfold yl;rw [if_pos hi];simp only [zG,if_neg hm]
    go_wp2_with fail
    rw [←K.out];refine G.mono ?_;clear G;rintro e ap ⟨A,rfl⟩;exact ⟨rfl,J.out.trans (ah.out.trans A),rfl⟩
 ·simp only [if_neg hi] at G
  obtain rfl:R=.error t.at0:=by rw [←hres];unfold yl;rw [if_neg hi]
  clear hex hEnd;go_wp2_with fail
  refine G.mono ?_;clear G;rintro e w9 ⟨y,rfl⟩;exact ⟨rfl,J.out.trans (M.out.trans y),rfl⟩
end Go.Proofs.YtmbofhpmockmbaaGreatDoor
