import Derived.Test.YtmbofhpmockmbaaGreatDoorMC22
namespace Go.Proofs.YtmbofhpmockmbaaGreatDoor
open Go.RowKit Go.Shelf
set_option maxHeartbeats 16000000
set_option maxRecDepth 100000
theorem Xk (r g o cap:Nat) (t:Tk) (ts:List Tk) (w:World) (hi:zp t [116,114,117,101]=true) (h:zc r g o cap (t::ts) w) (hE:zj (t::ts)) (hk1:t.k≠1) (hk2:t.k≠2) (hk3:t.k≠3)  :
  Calls Tryz.prog 168 #[.pointer (some ⟨r,0,none⟩)] w (zk r g w (.ok (.mk 2 [] 1 [] t.line,ts))):=by
 have hr:=h.lt.1;have T:=h.lt.2;have R:=h.alloc zD;have W:=Zd r g o cap t ts _ R;obtain ⟨w2,y⟩:∃w2,w2=((w.alloc zD).alloc (zH t)).alloc (zH t):=⟨_,rfl⟩;have h2:zc r g o cap (t::ts) w2:=by rw [y];exact (R.alloc _).alloc _
 have U:zb r w w2:=by rw [y];exact (((zb.refl r w).alloc _).alloc _).alloc _
 have n0:w2.heap[w.heap.size]?=some zD:=by
  rw [y,Below.heap_alloc _ _ _ (by simp;omega),Below.heap_alloc _ _ _ (by simp)]
  exact World.alloc_heap_new _ _
 have L:w2.heap[w.heap.size+1+1]?=some (zH t):=by
  have Z:=World.alloc_heap_new ((w.alloc zD).alloc (zH t)) (zH t);rw [←y,show ((w.alloc zD).alloc (zH t)).heap.size=w.heap.size+1+1 by simp] at Z
  exact Z
 have I:w.heap.size+1+1<w2.heap.size:=(Array.getElem?_eq_some_iff.1 L).1;have O:Hid (w2=((w.alloc zD).alloc (zH t)).alloc (zH t)):=y;have M:Hid (zb r w w2):=U;have Q:Hid (w2.heap[w.heap.size]?=some zD):=n0;have J:Hid (w2.heap[w.heap.size+1+1]?=some (zH t)):=L;have Y:¬(t.k:Int)=1:=by omega
 have V:¬(t.k:Int)=2:=by omega
 have X:¬(t.k:Int)=3:=by omega
 clear h R y U n0 L
 go_enter Tryz.func168,Tryz.ntmps168
 go_wp2_with fail
 refine W.mono ?_;clear W;rintro e w1 ⟨rfl,rfl⟩;simp only [xq];have H:Hid (zb r w2 w2):=zb.refl r w2;have E:Hid (zc r g o cap (t::ts) w2):=h2;clear h2;have N:=Zb r g o cap t ts [116,114,117,101] w2 E.out (fun hi=>(hE.tail (zf hi)).ne)
 rw [hi] at N;go_wp2_with fail
 rw [←O.out];refine N.mono ?_;clear N;rintro e w9 ⟨rfl,A,D⟩;have z:zb r w2 w9:=H.out.trans A;have G:zc r g (o+5) (cap-1) ts w9:=by simpa using D
 have K:=(z.block _ (by omega) (by omega)).trans Q.out
 have p2:=(z.block _ I (by omega)).trans J.out
 obtain ⟨c0,c1,c2,c3,c4,-⟩:=zt p2;obtain ⟨q0,q1,q2,q3,q4,qf⟩:=zt K;obtain ⟨z0,z1,z2,z3,z4⟩:=zq K (.int .i64 2) (.string ⟨#[]⟩) (.int .i64 1) (.slice none 0 0) (.int .i64 t.line)
 have HP:Hid (zk r g w (.ok (.mk 2 [] 1 [] t.line,ts)) (.returned (.agg #[.int .i64 2,.string ⟨#[]⟩,.int .i64 1,.slice none 0 0,.int .i64 t.line])) (set5 w9 w.heap.size (.int .i64 2) (.string ⟨#[]⟩) (.int .i64 1) (.slice none 0 0) (.int .i64 t.line))) :=
  zk.of_set5 (B:=w.heap.size+1) 2 [] 1 t.line (M.out.trans z) (Nat.le_refl _) hr T (.inl ⟨rfl,rfl⟩) (Nat.lt_succ_self _) G
 clear z G K p2 A D;go_wp2
 exact bodyPost_ret (v:=.agg #[.int .i64 2,.string ⟨#[]⟩,.int .i64 1,.slice none 0 0,.int .i64 t.line]) (by simp [results,Tryz.results168,go_sem,z0,z1,z2,z3,z4]) rfl HP.out
theorem xA (r g o cap:Nat) (t:Tk) (ts:List Tk) (w:World) (hi:zp t [102,97,108,115,101]=true) (h:zc r g o cap (t::ts) w) (hE:zj (t::ts)) (hk1:t.k≠1) (hk2:t.k≠2) (hk3:t.k≠3) (hiT:zp t [116,114,117,101]=false) :
  Calls Tryz.prog 168 #[.pointer (some ⟨r,0,none⟩)] w (zk r g w (.ok (.mk 2 [] 0 [] t.line,ts))):=by
 have hr:=h.lt.1;have W:=h.lt.2;have V:=h.alloc zD;have Z:=Zd r g o cap t ts _ V;obtain ⟨w2,y⟩:∃w2,w2=((w.alloc zD).alloc (zH t)).alloc (zH t):=⟨_,rfl⟩;have h2:zc r g o cap (t::ts) w2:=by rw [y];exact (V.alloc _).alloc _
 have X:zb r w w2:=by rw [y];exact (((zb.refl r w).alloc _).alloc _).alloc _
 have n0:w2.heap[w.heap.size]?=some zD:=by
  rw [y,Below.heap_alloc _ _ _ (by simp;omega),Below.heap_alloc _ _ _ (by simp)]
  exact World.alloc_heap_new _ _
 have R:w2.heap[w.heap.size+1+1]?=some (zH t):=by
  have hx:=World.alloc_heap_new ((w.alloc zD).alloc (zH t)) (zH t);rw [←y,show ((w.alloc zD).alloc (zH t)).heap.size=w.heap.size+1+1 by simp] at hx
  exact hx
 have N:w.heap.size+1+1<w2.heap.size:=(Array.getElem?_eq_some_iff.1 R).1;have J:Hid (w2=((w.alloc zD).alloc (zH t)).alloc (zH t)):=y;have T:Hid (zb r w w2):=X;have U:Hid (w2.heap[w.heap.size]?=some zD):=n0;have O:Hid (w2.heap[w.heap.size+1+1]?=some (zH t)):=R;have ab:¬(t.k:Int)=1:=by omega
 have Y:¬(t.k:Int)=2:=by omega
 have aa:¬(t.k:Int)=3:=by omega
 clear h V y X n0 R
 go_enter Tryz.func168,Tryz.ntmps168
 go_wp2_with fail
 refine Z.mono ?_;clear Z;rintro e w1 ⟨rfl,rfl⟩;simp only [xq];have G:Hid (zb r w2 w2):=zb.refl r w2;have E:Hid (zc r g o cap (t::ts) w2):=h2;clear h2;have H:=Zb r g o cap t ts [116,114,117,101] w2 E.out (fun hi=>(hE.tail (zf hi)).ne)
 rw [hiT] at H;go_wp2_with fail
 rw [←J.out];refine H.mono ?_;clear H;rintro e M ⟨rfl,z,A⟩;have I:Hid (zb r w2 M):=G.out.trans z;have K:Hid (zc r g o cap (t::ts) M):=show zc _ _ _ _ _ _ by simpa using A
 clear z A G E;clear J;have H:=Zb r g o cap t ts [102,97,108,115,101] M K.out (fun hi=>(hE.tail (zf hi)).ne)
 rw [hi] at H;go_wp2_with fail
 refine H.mono ?_;clear H;rintro e w9 ⟨rfl,z,A⟩;have D:zb r w2 w9:=I.out.trans z;have L:zc r g (o+5) (cap-1) ts w9:=by simpa using A
 have Q:=(D.block _ (by omega) (by omega)).trans U.out
 have p2:=(D.block _ N (by omega)).trans O.out
 obtain ⟨c0,c1,c2,c3,c4,-⟩:=zt p2;obtain ⟨q0,q1,q2,q3,q4,qf⟩:=zt Q;obtain ⟨z0,z1,z2,z3,z4⟩:=zq Q (.int .i64 2) (.string ⟨#[]⟩) (.int .i64 0) (.slice none 0 0) (.int .i64 t.line)
 have HP:Hid (zk r g w (.ok (.mk 2 [] 0 [] t.line,ts)) (.returned (.agg #[.int .i64 2,.string ⟨#[]⟩,.int .i64 0,.slice none 0 0,.int .i64 t.line])) (set5 w9 w.heap.size (.int .i64 2) (.string ⟨#[]⟩) (.int .i64 0) (.slice none 0 0) (.int .i64 t.line))) :=
  zk.of_set5 (B:=w.heap.size+1) 2 [] 0 t.line (T.out.trans D) (Nat.le_refl _) hr W (.inl ⟨rfl,rfl⟩) (Nat.lt_succ_self _) L
 clear D L Q p2 z A;go_wp2
 exact bodyPost_ret (v:=.agg #[.int .i64 2,.string ⟨#[]⟩,.int .i64 0,.slice none 0 0,.int .i64 t.line]) (by simp [results,Tryz.results168,go_sem,z0,z1,z2,z3,z4]) rfl HP.out
def yl (t:Tk) (res:PR Ex):PR Ex :=
 if zp t [40]=true then
  match res with
  | .error a=>.error a
  | .ok (e,us)=>if zp (zM us) [41]=true then .ok (e,us.tail) else .error (zM us).at0
 else .error t.at0
theorem y4 (r g o cap:Nat) (t:Tk) (ts:List Tk) (w:World) (res:PR Ex) (hEnd:∀l us,res=.ok (l,us)→zj us) (hex:zp t [40]=true→∀w1 o1 cap1,zc r g o1 cap1 ts w1→zb r w w1→Calls Tryz.prog 74 #[.pointer (some ⟨r,0,none⟩)] w1 (zk r g w1 res)) (h:zc r g o cap (t::ts) w) (hE:zj (t::ts)) (hk1:t.k≠1) (hk2:t.k≠2) (hk3:t.k≠3) (hiT:zp t [116,114,117,101]=false) (hiF:zp t [102,97,108,115,101]=false) (hiN:zp t [110,101,119]=false) (hiB:zp t [91]=false) :
  Calls Tryz.prog 168 #[.pointer (some ⟨r,0,none⟩)] w (zk r g w (yl t res)):=by
 generalize hres:yl t res=R;have hr:=h.lt.1;have aB:=h.lt.2;have h0:=h.alloc zD;have ch:=Zd r g o cap t ts _ h0;obtain ⟨w2,I⟩:∃w2,w2=((w.alloc zD).alloc (zH t)).alloc (zH t):=⟨_,rfl⟩;have h2:zc r g o cap (t::ts) w2:=by rw [I];exact (h0.alloc _).alloc _
 have k2:zb r w w2:=by rw [I];exact (((zb.refl r w).alloc _).alloc _).alloc _
 have n0:w2.heap[w.heap.size]?=some zD:=by
  rw [I,Below.heap_alloc _ _ _ (by simp;omega),Below.heap_alloc _ _ _ (by simp)]
  exact World.alloc_heap_new _ _
 have n2:w2.heap[w.heap.size+1+1]?=some (zH t):=by
  have hx:=World.alloc_heap_new ((w.alloc zD).alloc (zH t)) (zH t);rw [←I,show ((w.alloc zD).alloc (zH t)).heap.size=w.heap.size+1+1 by simp] at hx
  exact hx
 have aG:w.heap.size+1+1<w2.heap.size:=(Array.getElem?_eq_some_iff.1 n2).1;have ar:Hid (w2=((w.alloc zD).alloc (zH t)).alloc (zH t)):=I;have N:Hid (zb r w w2):=k2;have aA:Hid (w2.heap[w.heap.size]?=some zD):=n0;have aH:Hid (w2.heap[w.heap.size+1+1]?=some (zH t)):=n2;have aF:¬(t.k:Int)=1:=by omega
 have aC:¬(t.k:Int)=2:=by omega
 have aE:¬(t.k:Int)=3:=by omega
 clear h h0 I k2 n0 n2
 go_enter Tryz.func168,Tryz.ntmps168
 go_wp2_with fail
 refine ch.mono ?_;clear ch;rintro e w1 ⟨rfl,rfl⟩;simp only [xq];have ai:Hid (zb r w2 w2):=zb.refl r w2;have ag:Hid (zc r g o cap (t::ts) w2):=h2;clear h2;have E:=Zb r g o cap t ts [116,114,117,101] w2 ag.out (fun hi=>(hE.tail (zf hi)).ne)
 rw [hiT] at E;go_wp2_with fail
 rw [←ar.out];refine E.mono ?_;clear E;rintro e w3 ⟨rfl,y,z⟩;have ab:Hid (zb r w2 w3):=ai.out.trans y;have af:Hid (zc r g o cap (t::ts) w3):=show zc _ _ _ _ _ _ by simpa using z
 clear y z ai ag;clear ar;have E:=Zb r g o cap t ts [102,97,108,115,101] w3 af.out (fun hi=>(hE.tail (zf hi)).ne)
 rw [hiF] at E;go_wp2_with fail
 refine E.mono ?_;clear E;rintro e w4 ⟨rfl,y,z⟩;have aj:Hid (zb r w2 w4):=ab.out.trans y;have ah:Hid (zc r g o cap (t::ts) w4):=show zc _ _ _ _ _ _ by simpa using z
 clear y z ab af;have E:=Zb r g o cap t ts [110,101,119] w4 ah.out (fun hi=>(hE.tail (zf hi)).ne)
 rw [hiN] at E;go_wp2_with fail
 refine E.mono ?_;clear E;rintro e w5 ⟨rfl,y,z⟩;have ad:Hid (zb r w2 w5):=aj.out.trans y;have ak:Hid (zc r g o cap (t::ts) w5):=show zc _ _ _ _ _ _ by simpa using z
 clear y z aj ah;have E:=Zb r g o cap t ts [91] w5 ak.out (fun hi=>(hE.tail (zf hi)).ne)
 rw [hiB] at E;go_wp2_with fail
 refine E.mono ?_;clear E;rintro e w6 ⟨rfl,y,z⟩;have J:Hid (zb r w2 w6):=ad.out.trans y;have Z:Hid (zc r g o cap (t::ts) w6):=show zc _ _ _ _ _ _ by simpa using z
 clear y z ad ak;have G:=Yo r g o cap t ts [40] w6 Z.out (fun hi=>(hE.tail (zf hi)).ne)
 by_cases hi:zp t [40]=true
 ·simp only [if_pos hi] at G
  go_wp2_with fail
  refine G.mono ?_;clear G;rintro e w9 ⟨y,rfl,au⟩;have an:zb r w2 w9:=J.out.trans y;have c9:=hex hi w9 _ _ au (N.out.trans an);have aq:Hid (zb r w2 w9):=an;clear hex y au an J Z;go_wp2_with fail
  refine c9.mono ?_;clear c9;rintro e H ⟨K,O⟩;have ae:Hid (zb r w2 H):=aq.out.trans K;rcases res with a | ⟨x,us⟩
  ·obtain rfl:=O
   obtain rfl:R=.error a:=by rw [←hres];unfold yl;rw [if_pos hi]
   exact ⟨rfl,N.out.trans ae.out,rfl⟩
  ·obtain ⟨v,o3,Y,rfl,hx,ay⟩:=O
   obtain ⟨a,b,c,T,Q,L,l,rfl⟩:=hx.agg;have ax:=hEnd x us rfl;obtain ⟨t3,U,rfl⟩:=ax.cons;obtain ⟨w11,D⟩:∃w11,w11=H.alloc (.cells #[.int .i64 a,.string b,.int .i64 c,.slice T Q L,.int .i64 l] 90):=⟨_,rfl⟩;have av:zc r g o3 Y (t3::U) w11:=by rw [D];exact ay.alloc _
   have am:w11.heap[H.heap.size]?=some (.cells #[.int .i64 a,.string b,.int .i64 c,.slice T Q L,.int .i64 l] 90 (0,0)):=by rw [D];exact World.alloc_heap_new _ _
   have aa:Hid (zb r w2 w11):=show zb _ _ _ by rw [D];exact ae.out.alloc _
   have V:zQ w9.heap.size w11 x (.agg #[.int .i64 a,.string b,.int .i64 c,.slice T Q L,.int .i64 l]):=by rw [D];exact zQ.kept hx (by simp) fun k _ hlt=>Below.heap_alloc _ _ _ hlt
   have az:Hid (zQ w9.heap.size w11 x (.agg #[.int .i64 a,.string b,.int .i64 c,.slice T Q L,.int .i64 l])):=V;have aw:Hid (w11.heap[H.heap.size]?=some (.cells #[.int .i64 a,.string b,.int .i64 c,.slice T Q L,.int .i64 l] 90 (0,0))):=am;have G:=Yo r g o3 Y t3 U [41] w11 av (fun hi=>(ax.tail (zf hi)).ne)
   have M:Hid (w11=H.alloc (.cells #[.int .i64 a,.string b,.int .i64 c,.slice T Q L,.int .i64 l] 90)):=D;have aI:=aq.out.size;have aD:=K.size;have ap:H.heap.size<w11.heap.size:=(Array.getElem?_eq_some_iff.1 am).1;clear D av am V hx ay K
   by_cases hm:zp t3 [41]=true
   ·simp only [if_pos hm] at G
    obtain rfl:R=.ok (x,U):=by rw [←hres];unfold yl;rw [if_pos hi];simp only [zG,hm,if_true,List.tail_cons]
    go_wp2_with fail
    rw [←M.out];refine G.mono ?_;clear G M;rintro e al ⟨A,rfl,X⟩;have ao:=aa.out.trans A;have p0:=(ao.block _ (by omega) (by omega)).trans aA.out
    have pB:=(A.block _ ap (by omega)).trans aw.out
    obtain ⟨c0,c1,c2,c3,c4,-⟩:=zt pB;obtain ⟨q0,q1,q2,q3,q4,qf⟩:=zt p0;obtain ⟨z0,z1,z2,z3,z4⟩:=zq p0 (.int .i64 a) (.string b) (.int .i64 c) (.slice T Q L) (.int .i64 l);have W:zQ w9.heap.size al x (.agg #[.int .i64 a,.string b,.int .i64 c,.slice T Q L,.int .i64 l]):=zQ.kept az.out A.size fun k hB hlt=>A.block k hlt (by omega)
    have HP:Hid (zk r g w (.ok (x,U)) (.returned (.agg #[.int .i64 a,.string b,.int .i64 c,.slice T Q L,.int .i64 l])) (set5 al w.heap.size (.int .i64 a) (.string b) (.int .i64 c) (.slice T Q L) (.int .i64 l))) :=
     zk.of_set5' (N.out.trans ao) (Nat.le_refl _) hr aB W (by omega) X
    clear ao A X p0 pB W;go_wp2
    exact bodyPost_ret (v:=.agg #[.int .i64 a,.string b,.int .i64 c,.slice T Q L,.int .i64 l]) (by simp [results,Tryz.results168,go_sem,z0,z1,z2,z3,z4]) rfl HP.out
   ·simp only [if_neg hm] at G
    obtain rfl:R=.error t3.at0:=by rw [←hres];unfold yl;rw [if_pos hi];simp only [zG,if_neg hm]
    go_wp2_with fail
    rw [←M.out];refine G.mono ?_;clear G;rintro e al ⟨A,rfl⟩;exact ⟨rfl,N.out.trans (aa.out.trans A),rfl⟩
 ·simp only [if_neg hi] at G
  obtain rfl:R=.error t.at0:=by rw [←hres];unfold yl;rw [if_neg hi]
  clear hex hEnd;go_wp2_with fail
  refine G.mono ?_;clear G;rintro e w9 ⟨y,rfl⟩;exact ⟨rfl,N.out.trans (J.out.trans y),rfl⟩
end Go.Proofs.YtmbofhpmockmbaaGreatDoor
