import Derived.Test.YtmbofhpmockmbaaGreatDoorMC21
namespace Go.Proofs.YtmbofhpmockmbaaGreatDoor
open Go.RowKit Go.Shelf
set_option maxHeartbeats 16000000
set_option maxRecDepth 100000
theorem xn (r g o cap:Nat) (t:Tk) (ts:List Tk) (w:World) (hi:zn t [116,114,117,101]=true) (h:zc r g o cap (t::ts) w) (hE:zh (t::ts)) (hk1:t.k≠1) (hk2:t.k≠2) (hk3:t.k≠3)  :
  Calls Tryz.prog 168 #[.pointer (some ⟨r,0,none⟩)] w (zi r g w (.ok (.mk 2 [] 1 [] t.line,ts))):=by
 have hr:=h.lt.1;have R:=h.lt.2;have Q:=h.alloc zA;have V:=zZ r g o cap t ts _ Q;obtain ⟨w2,x⟩:∃w2,w2=((w.alloc zA).alloc (zE t)).alloc (zE t):=⟨_,rfl⟩;have Y:zc r g o cap (t::ts) w2:=by rw [x];exact (Q.alloc _).alloc _
 have Z:zb r w w2:=by rw [x];exact (((zb.refl r w).alloc _).alloc _).alloc _
 have T:w2.heap[w.heap.size]?=some zA:=by
  rw [x,Below.heap_alloc _ _ _ (by simp;omega),Below.heap_alloc _ _ _ (by simp)]
  exact World.alloc_heap_new _ _
 have O:w2.heap[w.heap.size+1+1]?=some (zE t):=by
  have S:=World.alloc_heap_new ((w.alloc zA).alloc (zE t)) (zE t);rw [←x,show ((w.alloc zA).alloc (zE t)).heap.size=w.heap.size+1+1 by simp] at S
  exact S
 have K:w.heap.size+1+1<w2.heap.size:=(Array.getElem?_eq_some_iff.1 O).1;have J:Hid (w2=((w.alloc zA).alloc (zE t)).alloc (zE t)):=x;have I:Hid (zb r w w2):=Z;have L:Hid (w2.heap[w.heap.size]?=some zA):=T;have H:Hid (w2.heap[w.heap.size+1+1]?=some (zE t)):=O;have aa:¬(t.k:Int)=1:=by omega
 have U:¬(t.k:Int)=2:=by omega
 have W:¬(t.k:Int)=3:=by omega
 clear h Q x Z T O
 go_enter Tryz.func168,Tryz.ntmps168
 go_wp2_with fail
 refine V.mono ?_;clear V;rintro e w1 ⟨rfl,rfl⟩;simp only [YA];have z:Hid (zb r w2 w2):=zb.refl r w2;have E:Hid (zc r g o cap (t::ts) w2):=Y;clear Y;have M:=zX r g o cap t ts [116,114,117,101] w2 E.out (fun hi=>(hE.tail (zf hi)).ne)
 rw [hi] at M;go_wp2_with fail
 rw [←J.out];refine M.mono ?_;clear M;rintro e w9 ⟨rfl,D,G⟩;have y:zb r w2 w9:=z.out.trans D;have A:zc r g (o+5) (cap-1) ts w9:=by simpa using G
 have N:=(y.block _ (by omega) (by omega)).trans L.out
 have X:=(y.block _ K (by omega)).trans H.out
 obtain ⟨c0,c1,c2,c3,c4,-⟩:=zr X;obtain ⟨q0,q1,q2,q3,q4,qf⟩:=zr N;obtain ⟨z0,z1,z2,z3,z4⟩:=zo N (.int .i64 2) (.string ⟨#[]⟩) (.int .i64 1) (.slice none 0 0) (.int .i64 t.line)
 have HP:Hid (zi r g w (.ok (.mk 2 [] 1 [] t.line,ts)) (.returned (.agg #[.int .i64 2,.string ⟨#[]⟩,.int .i64 1,.slice none 0 0,.int .i64 t.line])) (set5 w9 w.heap.size (.int .i64 2) (.string ⟨#[]⟩) (.int .i64 1) (.slice none 0 0) (.int .i64 t.line))) :=
  zi.of_set5 (B:=w.heap.size+1) 2 [] 1 t.line (I.out.trans y) (Nat.le_refl _) hr R (.inl ⟨rfl,rfl⟩) (Nat.lt_succ_self _) A
 clear y A N X D G;go_wp2
 exact bodyPost_ret (v:=.agg #[.int .i64 2,.string ⟨#[]⟩,.int .i64 1,.slice none 0 0,.int .i64 t.line]) (by simp [results,Tryz.results168,go_sem,z0,z1,z2,z3,z4]) rfl HP.out
theorem YI (r g o cap:Nat) (t:Tk) (ts:List Tk) (w:World) (hi:zn t [102,97,108,115,101]=true) (h:zc r g o cap (t::ts) w) (hE:zh (t::ts)) (hk1:t.k≠1) (hk2:t.k≠2) (hk3:t.k≠3) (hiT:zn t [116,114,117,101]=false) :
  Calls Tryz.prog 168 #[.pointer (some ⟨r,0,none⟩)] w (zi r g w (.ok (.mk 2 [] 0 [] t.line,ts))):=by
 have hr:=h.lt.1;have U:=h.lt.2;have T:=h.alloc zA;have Y:=zZ r g o cap t ts _ T;obtain ⟨w2,x⟩:∃w2,w2=((w.alloc zA).alloc (zE t)).alloc (zE t):=⟨_,rfl⟩;have h2:zc r g o cap (t::ts) w2:=by rw [x];exact (T.alloc _).alloc _
 have k2:zb r w w2:=by rw [x];exact (((zb.refl r w).alloc _).alloc _).alloc _
 have W:w2.heap[w.heap.size]?=some zA:=by
  rw [x,Below.heap_alloc _ _ _ (by simp;omega),Below.heap_alloc _ _ _ (by simp)]
  exact World.alloc_heap_new _ _
 have S:w2.heap[w.heap.size+1+1]?=some (zE t):=by
  have V:=World.alloc_heap_new ((w.alloc zA).alloc (zE t)) (zE t);rw [←x,show ((w.alloc zA).alloc (zE t)).heap.size=w.heap.size+1+1 by simp] at V
  exact V
 have N:w.heap.size+1+1<w2.heap.size:=(Array.getElem?_eq_some_iff.1 S).1;have I:Hid (w2=((w.alloc zA).alloc (zE t)).alloc (zE t)):=x;have M:Hid (zb r w w2):=k2;have Q:Hid (w2.heap[w.heap.size]?=some zA):=W;have L:Hid (w2.heap[w.heap.size+1+1]?=some (zE t)):=S;have aa:¬(t.k:Int)=1:=by omega
 have X:¬(t.k:Int)=2:=by omega
 have Z:¬(t.k:Int)=3:=by omega
 clear h T x k2 W S
 go_enter Tryz.func168,Tryz.ntmps168
 go_wp2_with fail
 refine Y.mono ?_;clear Y;rintro e w1 ⟨rfl,rfl⟩;simp only [YA];have D:Hid (zb r w2 w2):=zb.refl r w2;have E:Hid (zc r g o cap (t::ts) w2):=h2;clear h2;have G:=zX r g o cap t ts [116,114,117,101] w2 E.out (fun hi=>(hE.tail (zf hi)).ne)
 rw [hiT] at G;go_wp2_with fail
 rw [←I.out];refine G.mono ?_;clear G;rintro e O ⟨rfl,y,z⟩;have K:Hid (zb r w2 O):=D.out.trans y;have J:Hid (zc r g o cap (t::ts) O):=show zc _ _ _ _ _ _ by simpa using z
 clear y z D E;clear I;have G:=zX r g o cap t ts [102,97,108,115,101] O J.out (fun hi=>(hE.tail (zf hi)).ne)
 rw [hi] at G;go_wp2_with fail
 refine G.mono ?_;clear G;rintro e w9 ⟨rfl,y,z⟩;have A:zb r w2 w9:=K.out.trans y;have H:zc r g (o+5) (cap-1) ts w9:=by simpa using z
 have R:=(A.block _ (by omega) (by omega)).trans Q.out
 have p2:=(A.block _ N (by omega)).trans L.out
 obtain ⟨c0,c1,c2,c3,c4,-⟩:=zr p2;obtain ⟨q0,q1,q2,q3,q4,qf⟩:=zr R;obtain ⟨z0,z1,z2,z3,z4⟩:=zo R (.int .i64 2) (.string ⟨#[]⟩) (.int .i64 0) (.slice none 0 0) (.int .i64 t.line)
 have HP:Hid (zi r g w (.ok (.mk 2 [] 0 [] t.line,ts)) (.returned (.agg #[.int .i64 2,.string ⟨#[]⟩,.int .i64 0,.slice none 0 0,.int .i64 t.line])) (set5 w9 w.heap.size (.int .i64 2) (.string ⟨#[]⟩) (.int .i64 0) (.slice none 0 0) (.int .i64 t.line))) :=
  zi.of_set5 (B:=w.heap.size+1) 2 [] 0 t.line (M.out.trans A) (Nat.le_refl _) hr U (.inl ⟨rfl,rfl⟩) (Nat.lt_succ_self _) H
 clear A H R p2 y z;go_wp2
 exact bodyPost_ret (v:=.agg #[.int .i64 2,.string ⟨#[]⟩,.int .i64 0,.slice none 0 0,.int .i64 t.line]) (by simp [results,Tryz.results168,go_sem,z0,z1,z2,z3,z4]) rfl HP.out
def Z0 (t:Tk) (res:PR Ex):PR Ex :=
 if zn t [40]=true then
  match res with
  | .error a=>.error a
  | .ok (e,us)=>if zn (zK us) [41]=true then .ok (e,us.tail) else .error (zK us).at0
 else .error t.at0
theorem yy (r g o cap:Nat) (t:Tk) (ts:List Tk) (w:World) (res:PR Ex) (hEnd:∀l us,res=.ok (l,us)→zh us) (hex:zn t [40]=true→∀w1 o1 cap1,zc r g o1 cap1 ts w1→zb r w w1→Calls Tryz.prog 74 #[.pointer (some ⟨r,0,none⟩)] w1 (zi r g w1 res)) (h:zc r g o cap (t::ts) w) (hE:zh (t::ts)) (hk1:t.k≠1) (hk2:t.k≠2) (hk3:t.k≠3) (hiT:zn t [116,114,117,101]=false) (hiF:zn t [102,97,108,115,101]=false) (hiN:zn t [110,101,119]=false) (hiB:zn t [91]=false) :
  Calls Tryz.prog 168 #[.pointer (some ⟨r,0,none⟩)] w (zi r g w (Z0 t res)):=by
 generalize hres:Z0 t res=R;have hr:=h.lt.1;have az:=h.lt.2;have h0:=h.alloc zA;have ch:=zZ r g o cap t ts _ h0;obtain ⟨w2,I⟩:∃w2,w2=((w.alloc zA).alloc (zE t)).alloc (zE t):=⟨_,rfl⟩;have h2:zc r g o cap (t::ts) w2:=by rw [I];exact (h0.alloc _).alloc _
 have k2:zb r w w2:=by rw [I];exact (((zb.refl r w).alloc _).alloc _).alloc _
 have n0:w2.heap[w.heap.size]?=some zA:=by
  rw [I,Below.heap_alloc _ _ _ (by simp;omega),Below.heap_alloc _ _ _ (by simp)]
  exact World.alloc_heap_new _ _
 have n2:w2.heap[w.heap.size+1+1]?=some (zE t):=by
  have hx:=World.alloc_heap_new ((w.alloc zA).alloc (zE t)) (zE t);rw [←I,show ((w.alloc zA).alloc (zE t)).heap.size=w.heap.size+1+1 by simp] at hx
  exact hx
 have aG:w.heap.size+1+1<w2.heap.size:=(Array.getElem?_eq_some_iff.1 n2).1;have aq:Hid (w2=((w.alloc zA).alloc (zE t)).alloc (zE t)):=I;have J:Hid (zb r w w2):=k2;have aA:Hid (w2.heap[w.heap.size]?=some zA):=n0;have aH:Hid (w2.heap[w.heap.size+1+1]?=some (zE t)):=n2;have aE:¬(t.k:Int)=1:=by omega
 have aC:¬(t.k:Int)=2:=by omega
 have aD:¬(t.k:Int)=3:=by omega
 clear h h0 I k2 n0 n2
 go_enter Tryz.func168,Tryz.ntmps168
 go_wp2_with fail
 refine ch.mono ?_;clear ch;rintro e w1 ⟨rfl,rfl⟩;simp only [YA];have V:Hid (zb r w2 w2):=zb.refl r w2;have aj:Hid (zc r g o cap (t::ts) w2):=h2;clear h2;have E:=zX r g o cap t ts [116,114,117,101] w2 aj.out (fun hi=>(hE.tail (zf hi)).ne)
 rw [hiT] at E;go_wp2_with fail
 rw [←aq.out];refine E.mono ?_;clear E;rintro e w3 ⟨rfl,y,z⟩;have ai:Hid (zb r w2 w3):=V.out.trans y;have W:Hid (zc r g o cap (t::ts) w3):=show zc _ _ _ _ _ _ by simpa using z
 clear y z V aj;clear aq;have E:=zX r g o cap t ts [102,97,108,115,101] w3 W.out (fun hi=>(hE.tail (zf hi)).ne)
 rw [hiF] at E;go_wp2_with fail
 refine E.mono ?_;clear E;rintro e w4 ⟨rfl,y,z⟩;have af:Hid (zb r w2 w4):=ai.out.trans y;have ag:Hid (zc r g o cap (t::ts) w4):=show zc _ _ _ _ _ _ by simpa using z
 clear y z ai W;have E:=zX r g o cap t ts [110,101,119] w4 ag.out (fun hi=>(hE.tail (zf hi)).ne)
 rw [hiN] at E;go_wp2_with fail
 refine E.mono ?_;clear E;rintro e w5 ⟨rfl,y,z⟩;have ae:Hid (zb r w2 w5):=af.out.trans y;have X:Hid (zc r g o cap (t::ts) w5):=show zc _ _ _ _ _ _ by simpa using z
 clear y z af ag;have E:=zX r g o cap t ts [91] w5 X.out (fun hi=>(hE.tail (zf hi)).ne)
 rw [hiB] at E;go_wp2_with fail
 refine E.mono ?_;clear E;rintro e w6 ⟨rfl,y,z⟩;have N:Hid (zb r w2 w6):=ae.out.trans y;have U:Hid (zc r g o cap (t::ts) w6):=show zc _ _ _ _ _ _ by simpa using z
 clear y z ae X;have G:=yP r g o cap t ts [40] w6 U.out (fun hi=>(hE.tail (zf hi)).ne)
 by_cases hi:zn t [40]=true
 ·simp only [if_pos hi] at G
  go_wp2_with fail
  refine G.mono ?_;clear G;rintro e w9 ⟨y,rfl,ax⟩;have ao:zb r w2 w9:=N.out.trans y;have c9:=hex hi w9 _ _ ax (J.out.trans ao);have av:Hid (zb r w2 w9):=ao;clear hex y ax ao N U;go_wp2_with fail
  refine c9.mono ?_;clear c9;rintro e H ⟨K,M⟩;have ad:Hid (zb r w2 H):=av.out.trans K;rcases res with a | ⟨x,us⟩
  ·obtain rfl:=M
   obtain rfl:R=.error a:=by rw [←hres];unfold Z0;rw [if_pos hi]
   exact ⟨rfl,J.out.trans ad.out,rfl⟩
  ·obtain ⟨v,o3,aa,rfl,hx,ay⟩:=M
   obtain ⟨a,b,c,L,S,O,l,rfl⟩:=hx.agg;have ar:=hEnd x us rfl;obtain ⟨t3,T,rfl⟩:=ar.cons;obtain ⟨w11,D⟩:∃w11,w11=H.alloc (.cells #[.int .i64 a,.string b,.int .i64 c,.slice L S O,.int .i64 l] 90):=⟨_,rfl⟩;have aw:zc r g o3 aa (t3::T) w11:=by rw [D];exact ay.alloc _
   have ak:w11.heap[H.heap.size]?=some (.cells #[.int .i64 a,.string b,.int .i64 c,.slice L S O,.int .i64 l] 90 (0,0)):=by rw [D];exact World.alloc_heap_new _ _
   have ah:Hid (zb r w2 w11):=show zb _ _ _ by rw [D];exact ad.out.alloc _
   have Z:zM w9.heap.size w11 x (.agg #[.int .i64 a,.string b,.int .i64 c,.slice L S O,.int .i64 l]):=by rw [D];exact zM.kept hx (by simp) fun k _ hlt=>Below.heap_alloc _ _ _ hlt
   have ap:Hid (zM w9.heap.size w11 x (.agg #[.int .i64 a,.string b,.int .i64 c,.slice L S O,.int .i64 l])):=Z;have au:Hid (w11.heap[H.heap.size]?=some (.cells #[.int .i64 a,.string b,.int .i64 c,.slice L S O,.int .i64 l] 90 (0,0))):=ak;have G:=yP r g o3 aa t3 T [41] w11 aw (fun hi=>(ar.tail (zf hi)).ne)
   have Q:Hid (w11=H.alloc (.cells #[.int .i64 a,.string b,.int .i64 c,.slice L S O,.int .i64 l] 90)):=D;have aF:=av.out.size;have aB:=K.size;have am:H.heap.size<w11.heap.size:=(Array.getElem?_eq_some_iff.1 ak).1;clear D aw ak Z hx ay K
   by_cases hm:zn t3 [41]=true
   ·simp only [if_pos hm] at G
    obtain rfl:R=.ok (x,T):=by rw [←hres];unfold Z0;rw [if_pos hi];simp only [zD,hm,if_true,List.tail_cons]
    go_wp2_with fail
    rw [←Q.out];refine G.mono ?_;clear G Q;rintro e al ⟨A,rfl,ab⟩;have an:=ah.out.trans A;have p0:=(an.block _ (by omega) (by omega)).trans aA.out
    have pB:=(A.block _ am (by omega)).trans au.out
    obtain ⟨c0,c1,c2,c3,c4,-⟩:=zr pB;obtain ⟨q0,q1,q2,q3,q4,qf⟩:=zr p0;obtain ⟨z0,z1,z2,z3,z4⟩:=zo p0 (.int .i64 a) (.string b) (.int .i64 c) (.slice L S O) (.int .i64 l);have Y:zM w9.heap.size al x (.agg #[.int .i64 a,.string b,.int .i64 c,.slice L S O,.int .i64 l]):=zM.kept ap.out A.size fun k hB hlt=>A.block k hlt (by omega)
    have HP:Hid (zi r g w (.ok (x,T)) (.returned (.agg #[.int .i64 a,.string b,.int .i64 c,.slice L S O,.int .i64 l])) (set5 al w.heap.size (.int .i64 a) (.string b) (.int .i64 c) (.slice L S O) (.int .i64 l))) :=
     zi.of_set5' (J.out.trans an) (Nat.le_refl _) hr az Y (by omega) ab
    clear an A ab p0 pB Y;go_wp2
    exact bodyPost_ret (v:=.agg #[.int .i64 a,.string b,.int .i64 c,.slice L S O,.int .i64 l]) (by simp [results,Tryz.results168,go_sem,z0,z1,z2,z3,z4]) rfl HP.out
   ·simp only [if_neg hm] at G
    obtain rfl:R=.error t3.at0:=by rw [←hres];unfold Z0;rw [if_pos hi];simp only [zD,if_neg hm]
    go_wp2_with fail
    rw [←Q.out];refine G.mono ?_;clear G;rintro e al ⟨A,rfl⟩;exact ⟨rfl,J.out.trans (ah.out.trans A),rfl⟩
 ·simp only [if_neg hi] at G
  obtain rfl:R=.error t.at0:=by rw [←hres];unfold Z0;rw [if_neg hi]
  clear hex hEnd;go_wp2_with fail
  refine G.mono ?_;clear G;rintro e w9 ⟨y,rfl⟩;exact ⟨rfl,J.out.trans (N.out.trans y),rfl⟩
end Go.Proofs.YtmbofhpmockmbaaGreatDoor
