import Derived.Test.YtmbofhpmockmbaaGreatDoorMC26
namespace Go.Proofs.YtmbofhpmockmbaaGreatDoor
open Go.RowKit Go.Shelf
set_option maxHeartbeats 16000000
set_option maxRecDepth 100000
theorem XS (r g o cap:Nat) (t:Tk) (ts:List Tk) (w:World) (hi:zq t [116,114,117,101]=true) (h:zc r g o cap (t::ts) w) (hE:zk (t::ts)) (hk1:t.k≠1) (hk2:t.k≠2) (hk3:t.k≠3)  :
  Calls Tryz.prog 168 #[.pointer (some ⟨r,0,none⟩)] w (zl r g w (.ok (.mk 2 [] 1 [] t.line,ts))):=by
 have hr:=h.lt.1;have L:=h.lt.2;have K:=h.alloc zE;have ch:=Zk r g o cap t ts _ K;obtain ⟨w2,y⟩:∃w2,w2=((w.alloc zE).alloc (zJ t)).alloc (zJ t):=⟨_,rfl⟩;have h2:zc r g o cap (t::ts) w2:=by rw [y];exact (K.alloc _).alloc _
 have k2:zb r w w2:=by rw [y];exact (((zb.refl r w).alloc _).alloc _).alloc _
 have V:w2.heap[w.heap.size]?=some zE:=by
  rw [y,Below.heap_alloc _ _ _ (by simp;omega),Below.heap_alloc _ _ _ (by simp)]
  exact World.alloc_heap_new _ _
 have T:w2.heap[w.heap.size+1+1]?=some (zJ t):=by
  have X:=World.alloc_heap_new ((w.alloc zE).alloc (zJ t)) (zJ t);rw [←y,show ((w.alloc zE).alloc (zJ t)).heap.size=w.heap.size+1+1 by simp] at X
  exact X
 have R:w.heap.size+1+1<w2.heap.size:=(Array.getElem?_eq_some_iff.1 T).1;have M:Hid (w2=((w.alloc zE).alloc (zJ t)).alloc (zJ t)):=y;have O:Hid (zb r w w2):=k2;have I:Hid (w2.heap[w.heap.size]?=some zE):=V;have Q:Hid (w2.heap[w.heap.size+1+1]?=some (zJ t)):=T;have Z:¬(t.k:Int)=1:=by omega
 have W:¬(t.k:Int)=2:=by omega
 have Y:¬(t.k:Int)=3:=by omega
 clear h K y k2 V T
 go_enter Tryz.func168,Tryz.ntmps168
 go_wp2_with fail
 refine ch.mono ?_;clear ch;rintro e w1 ⟨rfl,rfl⟩;simp only [xT];have G:Hid (zb r w2 w2):=zb.refl r w2;have D:Hid (zc r g o cap (t::ts) w2):=h2;clear h2;have J:=Zi r g o cap t ts [116,114,117,101] w2 D.out (fun hi=>(hE.tail (zi hi)).ne)
 rw [hi] at J;go_wp2_with fail
 rw [←M.out];refine J.mono ?_;clear J;rintro e w9 ⟨rfl,H,A⟩;have z:zb r w2 w9:=G.out.trans H;have E:zc r g (o+5) (cap-1) ts w9:=by simpa using A
 have U:=(z.block _ (by omega) (by omega)).trans I.out
 have p2:=(z.block _ R (by omega)).trans Q.out
 obtain ⟨c0,c1,c2,c3,c4,-⟩:=zv p2;obtain ⟨q0,q1,q2,q3,q4,qf⟩:=zv U;obtain ⟨z0,z1,z2,z3,z4⟩:=zr U (.int .i64 2) (.string ⟨#[]⟩) (.int .i64 1) (.slice none 0 0) (.int .i64 t.line)
 have HP:Hid (zl r g w (.ok (.mk 2 [] 1 [] t.line,ts)) (.returned (.agg #[.int .i64 2,.string ⟨#[]⟩,.int .i64 1,.slice none 0 0,.int .i64 t.line])) (set5 w9 w.heap.size (.int .i64 2) (.string ⟨#[]⟩) (.int .i64 1) (.slice none 0 0) (.int .i64 t.line))) :=
  zl.of_set5 (B:=w.heap.size+1) 2 [] 1 t.line (O.out.trans z) (Nat.le_refl _) hr L (.inl ⟨rfl,rfl⟩) (Nat.lt_succ_self _) E
 clear z E U p2 H A;go_wp2
 exact bodyPost_ret (v:=.agg #[.int .i64 2,.string ⟨#[]⟩,.int .i64 1,.slice none 0 0,.int .i64 t.line]) (by simp [results,Tryz.results168,go_sem,z0,z1,z2,z3,z4]) rfl HP.out
theorem Xa (r g o cap:Nat) (t:Tk) (ts:List Tk) (w:World) (hi:zq t [102,97,108,115,101]=true) (h:zc r g o cap (t::ts) w) (hE:zk (t::ts)) (hk1:t.k≠1) (hk2:t.k≠2) (hk3:t.k≠3) (hiT:zq t [116,114,117,101]=false) :
  Calls Tryz.prog 168 #[.pointer (some ⟨r,0,none⟩)] w (zl r g w (.ok (.mk 2 [] 0 [] t.line,ts))):=by
 have hr:=h.lt.1;have R:=h.lt.2;have O:=h.alloc zE;have ch:=Zk r g o cap t ts _ O;obtain ⟨w2,y⟩:∃w2,w2=((w.alloc zE).alloc (zJ t)).alloc (zJ t):=⟨_,rfl⟩;have h2:zc r g o cap (t::ts) w2:=by rw [y];exact (O.alloc _).alloc _
 have k2:zb r w w2:=by rw [y];exact (((zb.refl r w).alloc _).alloc _).alloc _
 have Y:w2.heap[w.heap.size]?=some zE:=by
  rw [y,Below.heap_alloc _ _ _ (by simp;omega),Below.heap_alloc _ _ _ (by simp)]
  exact World.alloc_heap_new _ _
 have W:w2.heap[w.heap.size+1+1]?=some (zJ t):=by
  have hx:=World.alloc_heap_new ((w.alloc zE).alloc (zJ t)) (zJ t);rw [←y,show ((w.alloc zE).alloc (zJ t)).heap.size=w.heap.size+1+1 by simp] at hx
  exact hx
 have V:w.heap.size+1+1<w2.heap.size:=(Array.getElem?_eq_some_iff.1 W).1;have J:Hid (w2=((w.alloc zE).alloc (zJ t)).alloc (zJ t)):=y;have T:Hid (zb r w w2):=k2;have M:Hid (w2.heap[w.heap.size]?=some zE):=Y;have U:Hid (w2.heap[w.heap.size+1+1]?=some (zJ t)):=W;have ab:¬(t.k:Int)=1:=by omega
 have Z:¬(t.k:Int)=2:=by omega
 have aa:¬(t.k:Int)=3:=by omega
 clear h O y k2 Y W
 go_enter Tryz.func168,Tryz.ntmps168
 go_wp2_with fail
 refine ch.mono ?_;clear ch;rintro e w1 ⟨rfl,rfl⟩;simp only [xT];have G:Hid (zb r w2 w2):=zb.refl r w2;have E:Hid (zc r g o cap (t::ts) w2):=h2;clear h2;have H:=Zi r g o cap t ts [116,114,117,101] w2 E.out (fun hi=>(hE.tail (zi hi)).ne)
 rw [hiT] at H;go_wp2_with fail
 rw [←J.out];refine H.mono ?_;clear H;rintro e Q ⟨rfl,A,z⟩;have I:Hid (zb r w2 Q):=G.out.trans A;have K:Hid (zc r g o cap (t::ts) Q):=show zc _ _ _ _ _ _ by simpa using z
 clear A z G E;clear J;have H:=Zi r g o cap t ts [102,97,108,115,101] Q K.out (fun hi=>(hE.tail (zi hi)).ne)
 rw [hi] at H;go_wp2_with fail
 refine H.mono ?_;clear H;rintro e w9 ⟨rfl,A,z⟩;have D:zb r w2 w9:=I.out.trans A;have L:zc r g (o+5) (cap-1) ts w9:=by simpa using z
 have X:=(D.block _ (by omega) (by omega)).trans M.out
 have p2:=(D.block _ V (by omega)).trans U.out
 obtain ⟨c0,c1,c2,c3,c4,-⟩:=zv p2;obtain ⟨q0,q1,q2,q3,q4,qf⟩:=zv X;obtain ⟨z0,z1,z2,z3,z4⟩:=zr X (.int .i64 2) (.string ⟨#[]⟩) (.int .i64 0) (.slice none 0 0) (.int .i64 t.line)
 have HP:Hid (zl r g w (.ok (.mk 2 [] 0 [] t.line,ts)) (.returned (.agg #[.int .i64 2,.string ⟨#[]⟩,.int .i64 0,.slice none 0 0,.int .i64 t.line])) (set5 w9 w.heap.size (.int .i64 2) (.string ⟨#[]⟩) (.int .i64 0) (.slice none 0 0) (.int .i64 t.line))) :=
  zl.of_set5 (B:=w.heap.size+1) 2 [] 0 t.line (T.out.trans D) (Nat.le_refl _) hr R (.inl ⟨rfl,rfl⟩) (Nat.lt_succ_self _) L
 clear D L X p2 A z;go_wp2
 exact bodyPost_ret (v:=.agg #[.int .i64 2,.string ⟨#[]⟩,.int .i64 0,.slice none 0 0,.int .i64 t.line]) (by simp [results,Tryz.results168,go_sem,z0,z1,z2,z3,z4]) rfl HP.out
def yt (t:Tk) (res:PR Ex):PR Ex :=
 if zq t [40]=true then
  match res with
  | .error a=>.error a
  | .ok (e,us)=>if zq (zT us) [41]=true then .ok (e,us.tail) else .error (zT us).at0
 else .error t.at0
theorem Yk (r g o cap:Nat) (t:Tk) (ts:List Tk) (w:World) (res:PR Ex) (hEnd:∀l us,res=.ok (l,us)→zk us) (hex:zq t [40]=true→∀w1 o1 cap1,zc r g o1 cap1 ts w1→zb r w w1→Calls Tryz.prog 74 #[.pointer (some ⟨r,0,none⟩)] w1 (zl r g w1 res)) (h:zc r g o cap (t::ts) w) (hE:zk (t::ts)) (hk1:t.k≠1) (hk2:t.k≠2) (hk3:t.k≠3) (hiT:zq t [116,114,117,101]=false) (hiF:zq t [102,97,108,115,101]=false) (hiN:zq t [110,101,119]=false) (hiB:zq t [91]=false) :
  Calls Tryz.prog 168 #[.pointer (some ⟨r,0,none⟩)] w (zl r g w (yt t res)):=by
 generalize hres:yt t res=R;have hr:=h.lt.1;have aC:=h.lt.2;have h0:=h.alloc zE;have ch:=Zk r g o cap t ts _ h0;obtain ⟨w2,I⟩:∃w2,w2=((w.alloc zE).alloc (zJ t)).alloc (zJ t):=⟨_,rfl⟩;have h2:zc r g o cap (t::ts) w2:=by rw [I];exact (h0.alloc _).alloc _
 have k2:zb r w w2:=by rw [I];exact (((zb.refl r w).alloc _).alloc _).alloc _
 have n0:w2.heap[w.heap.size]?=some zE:=by
  rw [I,Below.heap_alloc _ _ _ (by simp;omega),Below.heap_alloc _ _ _ (by simp)]
  exact World.alloc_heap_new _ _
 have n2:w2.heap[w.heap.size+1+1]?=some (zJ t):=by
  have hx:=World.alloc_heap_new ((w.alloc zE).alloc (zJ t)) (zJ t);rw [←I,show ((w.alloc zE).alloc (zJ t)).heap.size=w.heap.size+1+1 by simp] at hx
  exact hx
 have aH:w.heap.size+1+1<w2.heap.size:=(Array.getElem?_eq_some_iff.1 n2).1;have ax:Hid (w2=((w.alloc zE).alloc (zJ t)).alloc (zJ t)):=I;have Q:Hid (zb r w w2):=k2;have aB:Hid (w2.heap[w.heap.size]?=some zE):=n0;have aI:Hid (w2.heap[w.heap.size+1+1]?=some (zJ t)):=n2;have aG:¬(t.k:Int)=1:=by omega
 have aE:¬(t.k:Int)=2:=by omega
 have aF:¬(t.k:Int)=3:=by omega
 clear h h0 I k2 n0 n2
 go_enter Tryz.func168,Tryz.ntmps168
 go_wp2_with fail
 refine ch.mono ?_;clear ch;rintro e w1 ⟨rfl,rfl⟩;simp only [xT];have ag:Hid (zb r w2 w2):=zb.refl r w2;have ad:Hid (zc r g o cap (t::ts) w2):=h2;clear h2;have E:=Zi r g o cap t ts [116,114,117,101] w2 ad.out (fun hi=>(hE.tail (zi hi)).ne)
 rw [hiT] at E;go_wp2_with fail
 rw [←ax.out];refine E.mono ?_;clear E;rintro e w3 ⟨rfl,y,z⟩;have Z:Hid (zb r w2 w3):=ag.out.trans y;have ae:Hid (zc r g o cap (t::ts) w3):=show zc _ _ _ _ _ _ by simpa using z
 clear y z ag ad;clear ax;have E:=Zi r g o cap t ts [102,97,108,115,101] w3 ae.out (fun hi=>(hE.tail (zi hi)).ne)
 rw [hiF] at E;go_wp2_with fail
 refine E.mono ?_;clear E;rintro e w4 ⟨rfl,y,z⟩;have ak:Hid (zb r w2 w4):=Z.out.trans y;have aj:Hid (zc r g o cap (t::ts) w4):=show zc _ _ _ _ _ _ by simpa using z
 clear y z Z ae;have E:=Zi r g o cap t ts [110,101,119] w4 aj.out (fun hi=>(hE.tail (zi hi)).ne)
 rw [hiN] at E;go_wp2_with fail
 refine E.mono ?_;clear E;rintro e w5 ⟨rfl,y,z⟩;have X:Hid (zb r w2 w5):=ak.out.trans y;have W:Hid (zc r g o cap (t::ts) w5):=show zc _ _ _ _ _ _ by simpa using z
 clear y z ak aj;have E:=Zi r g o cap t ts [91] w5 W.out (fun hi=>(hE.tail (zi hi)).ne)
 rw [hiB] at E;go_wp2_with fail
 refine E.mono ?_;clear E;rintro e w6 ⟨rfl,y,z⟩;have K:Hid (zb r w2 w6):=X.out.trans y;have aa:Hid (zc r g o cap (t::ts) w6):=show zc _ _ _ _ _ _ by simpa using z
 clear y z X W;have G:=YO r g o cap t ts [40] w6 aa.out (fun hi=>(hE.tail (zi hi)).ne)
 by_cases hi:zq t [40]=true
 ·simp only [if_pos hi] at G
  go_wp2_with fail
  refine G.mono ?_;clear G;rintro e w9 ⟨y,rfl,ay⟩;have am:zb r w2 w9:=K.out.trans y;have c9:=hex hi w9 _ _ ay (Q.out.trans am);have aA:Hid (zb r w2 w9):=am;clear hex y ay am K aa;go_wp2_with fail
  refine c9.mono ?_;clear c9;rintro e H ⟨U,L⟩;have ab:Hid (zb r w2 H):=aA.out.trans U;rcases res with a | ⟨x,us⟩
  ·obtain rfl:=L
   obtain rfl:R=.error a:=by rw [←hres];unfold yt;rw [if_pos hi]
   exact ⟨rfl,Q.out.trans ab.out,rfl⟩
  ·obtain ⟨v,o3,al,rfl,hx,ar⟩:=L
   obtain ⟨a,b,c,J,T,O,l,rfl⟩:=hx.agg;have av:=hEnd x us rfl;obtain ⟨t3,V,rfl⟩:=av.cons;obtain ⟨w11,D⟩:∃w11,w11=H.alloc (.cells #[.int .i64 a,.string b,.int .i64 c,.slice J T O,.int .i64 l] 90):=⟨_,rfl⟩;have aw:zc r g o3 al (t3::V) w11:=by rw [D];exact ar.alloc _
   have ap:w11.heap[H.heap.size]?=some (.cells #[.int .i64 a,.string b,.int .i64 c,.slice J T O,.int .i64 l] 90 (0,0)):=by rw [D];exact World.alloc_heap_new _ _
   have ai:Hid (zb r w2 w11):=show zb _ _ _ by rw [D];exact ab.out.alloc _
   have Y:zX w9.heap.size w11 x (.agg #[.int .i64 a,.string b,.int .i64 c,.slice J T O,.int .i64 l]):=by rw [D];exact zX.kept hx (by simp) fun k _ hlt=>Below.heap_alloc _ _ _ hlt
   have az:Hid (zX w9.heap.size w11 x (.agg #[.int .i64 a,.string b,.int .i64 c,.slice J T O,.int .i64 l])):=Y;have au:Hid (w11.heap[H.heap.size]?=some (.cells #[.int .i64 a,.string b,.int .i64 c,.slice J T O,.int .i64 l] 90 (0,0))):=ap;have G:=YO r g o3 al t3 V [41] w11 aw (fun hi=>(av.tail (zi hi)).ne)
   have M:Hid (w11=H.alloc (.cells #[.int .i64 a,.string b,.int .i64 c,.slice J T O,.int .i64 l] 90)):=D;have aJ:=aA.out.size;have aD:=U.size;have aq:H.heap.size<w11.heap.size:=(Array.getElem?_eq_some_iff.1 ap).1;clear D aw ap Y hx ar U
   by_cases hm:zq t3 [41]=true
   ·simp only [if_pos hm] at G
    obtain rfl:R=.ok (x,V):=by rw [←hres];unfold yt;rw [if_pos hi];simp only [zH,hm,if_true,List.tail_cons]
    go_wp2_with fail
    rw [←M.out];refine G.mono ?_;clear G M;rintro e an ⟨A,rfl,af⟩;have ao:=ai.out.trans A;have p0:=(ao.block _ (by omega) (by omega)).trans aB.out
    have pB:=(A.block _ aq (by omega)).trans au.out
    obtain ⟨c0,c1,c2,c3,c4,-⟩:=zv pB;obtain ⟨q0,q1,q2,q3,q4,qf⟩:=zv p0;obtain ⟨z0,z1,z2,z3,z4⟩:=zr p0 (.int .i64 a) (.string b) (.int .i64 c) (.slice J T O) (.int .i64 l);have ah:zX w9.heap.size an x (.agg #[.int .i64 a,.string b,.int .i64 c,.slice J T O,.int .i64 l]):=zX.kept az.out A.size fun k hB hlt=>A.block k hlt (by omega)
    have HP:Hid (zl r g w (.ok (x,V)) (.returned (.agg #[.int .i64 a,.string b,.int .i64 c,.slice J T O,.int .i64 l])) (set5 an w.heap.size (.int .i64 a) (.string b) (.int .i64 c) (.slice J T O) (.int .i64 l))) :=
     zl.of_set5' (Q.out.trans ao) (Nat.le_refl _) hr aC ah (by omega) af
    clear ao A af p0 pB ah;go_wp2
    exact bodyPost_ret (v:=.agg #[.int .i64 a,.string b,.int .i64 c,.slice J T O,.int .i64 l]) (by simp [results,Tryz.results168,go_sem,z0,z1,z2,z3,z4]) rfl HP.out
   ·simp only [if_neg hm] at G
    obtain rfl:R=.error t3.at0:=by rw [←hres];unfold yt;rw [if_pos hi];simp only [zH,if_neg hm]
    go_wp2_with fail
    rw [←M.out];refine G.mono ?_;clear G;rintro e an ⟨A,rfl⟩;exact ⟨rfl,Q.out.trans (ai.out.trans A),rfl⟩
 ·simp only [if_neg hi] at G
  obtain rfl:R=.error t.at0:=by rw [←hres];unfold yt;rw [if_neg hi]
  clear hex hEnd;go_wp2_with fail
  refine G.mono ?_;clear G;rintro e w9 ⟨y,rfl⟩;exact ⟨rfl,Q.out.trans (K.out.trans y),rfl⟩
end Go.Proofs.YtmbofhpmockmbaaGreatDoor
