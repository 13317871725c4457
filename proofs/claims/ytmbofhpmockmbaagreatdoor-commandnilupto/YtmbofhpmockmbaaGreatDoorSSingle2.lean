import Derived.Test.YtmbofhpmockmbaaGreatDoorMC22
namespace Go.Proofs.YtmbofhpmockmbaaGreatDoor
open Go.RowKit Go.Shelf
set_option maxHeartbeats 16000000
set_option maxRecDepth 100000
theorem xZ (r g o cap:Nat) (t:Tk) (ts:List Tk) (w:World) (hi:zp t [116,114,117,101]=true) (h:zc r g o cap (t::ts) w) (hE:zi (t::ts)) (hk1:t.k≠1) (hk2:t.k≠2) (hk3:t.k≠3)  :
  Calls Tryz.prog 168 #[.pointer (some ⟨r,0,none⟩)] w (zj r g w (.ok (.mk 2 [] 1 [] t.line,ts))):=by
 have hr:=h.lt.1;have S:=h.lt.2;have N:=h.alloc zC;have ch:=z8 r g o cap t ts _ N;obtain ⟨w2,y⟩:∃w2,w2=((w.alloc zC).alloc (zF t)).alloc (zF t):=⟨_,rfl⟩;have X:zc r g o cap (t::ts) w2:=by rw [y];exact (N.alloc _).alloc _
 have T:zb r w w2:=by rw [y];exact (((zb.refl r w).alloc _).alloc _).alloc _
 have Y:w2.heap[w.heap.size]?=some zC:=by
  rw [y,Below.heap_alloc _ _ _ (by simp;omega),Below.heap_alloc _ _ _ (by simp)]
  exact World.alloc_heap_new _ _
 have K:w2.heap[w.heap.size+1+1]?=some (zF t):=by
  have Z:=World.alloc_heap_new ((w.alloc zC).alloc (zF t)) (zF t);rw [←y,show ((w.alloc zC).alloc (zF t)).heap.size=w.heap.size+1+1 by simp] at Z
  exact Z
 have Q:w.heap.size+1+1<w2.heap.size:=(Array.getElem?_eq_some_iff.1 K).1;have J:Hid (w2=((w.alloc zC).alloc (zF t)).alloc (zF t)):=y;have R:Hid (zb r w w2):=T;have I:Hid (w2.heap[w.heap.size]?=some zC):=Y;have O:Hid (w2.heap[w.heap.size+1+1]?=some (zF t)):=K;have W:¬(t.k:Int)=1:=by omega
 have V:¬(t.k:Int)=2:=by omega
 have U:¬(t.k:Int)=3:=by omega
 clear h N y T Y K
 go_enter Tryz.func168,Tryz.ntmps168
 go_wp2_with fail
 refine ch.mono ?_;clear ch;rintro e w1 ⟨rfl,rfl⟩;simp only [Y2];have G:Hid (zb r w2 w2):=zb.refl r w2;have H:Hid (zc r g o cap (t::ts) w2):=X;clear X;have M:=z6 r g o cap t ts [116,114,117,101] w2 H.out (fun hi=>(hE.tail (zg hi)).ne)
 rw [hi] at M;go_wp2_with fail
 rw [←J.out];refine M.mono ?_;clear M;rintro e w9 ⟨rfl,E,A⟩;have z:zb r w2 w9:=G.out.trans E;have D:zc r g (o+5) (cap-1) ts w9:=by simpa using A
 have L:=(z.block _ (by omega) (by omega)).trans I.out
 have p2:=(z.block _ Q (by omega)).trans O.out
 obtain ⟨c0,c1,c2,c3,c4,-⟩:=zs p2;obtain ⟨q0,q1,q2,q3,q4,qf⟩:=zs L;obtain ⟨z0,z1,z2,z3,z4⟩:=zq L (.int .i64 2) (.string ⟨#[]⟩) (.int .i64 1) (.slice none 0 0) (.int .i64 t.line)
 have HP:Hid (zj r g w (.ok (.mk 2 [] 1 [] t.line,ts)) (.returned (.agg #[.int .i64 2,.string ⟨#[]⟩,.int .i64 1,.slice none 0 0,.int .i64 t.line])) (set5 w9 w.heap.size (.int .i64 2) (.string ⟨#[]⟩) (.int .i64 1) (.slice none 0 0) (.int .i64 t.line))) :=
  zj.of_set5 (B:=w.heap.size+1) 2 [] 1 t.line (R.out.trans z) (Nat.le_refl _) hr S (.inl ⟨rfl,rfl⟩) (Nat.lt_succ_self _) D
 clear z D L p2 E A;go_wp2
 exact bodyPost_ret (v:=.agg #[.int .i64 2,.string ⟨#[]⟩,.int .i64 1,.slice none 0 0,.int .i64 t.line]) (by simp [results,Tryz.results168,go_sem,z0,z1,z2,z3,z4]) rfl HP.out
theorem xe (r g o cap:Nat) (t:Tk) (ts:List Tk) (w:World) (hi:zp t [102,97,108,115,101]=true) (h:zc r g o cap (t::ts) w) (hE:zi (t::ts)) (hk1:t.k≠1) (hk2:t.k≠2) (hk3:t.k≠3) (hiT:zp t [116,114,117,101]=false) :
  Calls Tryz.prog 168 #[.pointer (some ⟨r,0,none⟩)] w (zj r g w (.ok (.mk 2 [] 0 [] t.line,ts))):=by
 have hr:=h.lt.1;have V:=h.lt.2;have R:=h.alloc zC;have ch:=z8 r g o cap t ts _ R;obtain ⟨w2,y⟩:∃w2,w2=((w.alloc zC).alloc (zF t)).alloc (zF t):=⟨_,rfl⟩;have h2:zc r g o cap (t::ts) w2:=by rw [y];exact (R.alloc _).alloc _
 have W:zb r w w2:=by rw [y];exact (((zb.refl r w).alloc _).alloc _).alloc _
 have n0:w2.heap[w.heap.size]?=some zC:=by
  rw [y,Below.heap_alloc _ _ _ (by simp;omega),Below.heap_alloc _ _ _ (by simp)]
  exact World.alloc_heap_new _ _
 have O:w2.heap[w.heap.size+1+1]?=some (zF t):=by
  have hx:=World.alloc_heap_new ((w.alloc zC).alloc (zF t)) (zF t);rw [←y,show ((w.alloc zC).alloc (zF t)).heap.size=w.heap.size+1+1 by simp] at hx
  exact hx
 have T:w.heap.size+1+1<w2.heap.size:=(Array.getElem?_eq_some_iff.1 O).1;have I:Hid (w2=((w.alloc zC).alloc (zF t)).alloc (zF t)):=y;have U:Hid (zb r w w2):=W;have M:Hid (w2.heap[w.heap.size]?=some zC):=n0;have S:Hid (w2.heap[w.heap.size+1+1]?=some (zF t)):=O;have Z:¬(t.k:Int)=1:=by omega
 have Y:¬(t.k:Int)=2:=by omega
 have X:¬(t.k:Int)=3:=by omega
 clear h R y W n0 O
 go_enter Tryz.func168,Tryz.ntmps168
 go_wp2_with fail
 refine ch.mono ?_;clear ch;rintro e w1 ⟨rfl,rfl⟩;simp only [Y2];have E:Hid (zb r w2 w2):=zb.refl r w2;have G:Hid (zc r g o cap (t::ts) w2):=h2;clear h2;have H:=z6 r g o cap t ts [116,114,117,101] w2 G.out (fun hi=>(hE.tail (zg hi)).ne)
 rw [hiT] at H;go_wp2_with fail
 rw [←I.out];refine H.mono ?_;clear H;rintro e N ⟨rfl,A,z⟩;have K:Hid (zb r w2 N):=E.out.trans A;have L:Hid (zc r g o cap (t::ts) N):=show zc _ _ _ _ _ _ by simpa using z
 clear A z E G;clear I;have H:=z6 r g o cap t ts [102,97,108,115,101] N L.out (fun hi=>(hE.tail (zg hi)).ne)
 rw [hi] at H;go_wp2_with fail
 refine H.mono ?_;clear H;rintro e w9 ⟨rfl,A,z⟩;have D:zb r w2 w9:=K.out.trans A;have J:zc r g (o+5) (cap-1) ts w9:=by simpa using z
 have Q:=(D.block _ (by omega) (by omega)).trans M.out
 have p2:=(D.block _ T (by omega)).trans S.out
 obtain ⟨c0,c1,c2,c3,c4,-⟩:=zs p2;obtain ⟨q0,q1,q2,q3,q4,qf⟩:=zs Q;obtain ⟨z0,z1,z2,z3,z4⟩:=zq Q (.int .i64 2) (.string ⟨#[]⟩) (.int .i64 0) (.slice none 0 0) (.int .i64 t.line)
 have HP:Hid (zj r g w (.ok (.mk 2 [] 0 [] t.line,ts)) (.returned (.agg #[.int .i64 2,.string ⟨#[]⟩,.int .i64 0,.slice none 0 0,.int .i64 t.line])) (set5 w9 w.heap.size (.int .i64 2) (.string ⟨#[]⟩) (.int .i64 0) (.slice none 0 0) (.int .i64 t.line))) :=
  zj.of_set5 (B:=w.heap.size+1) 2 [] 0 t.line (U.out.trans D) (Nat.le_refl _) hr V (.inl ⟨rfl,rfl⟩) (Nat.lt_succ_self _) J
 clear D J Q p2 A z;go_wp2
 exact bodyPost_ret (v:=.agg #[.int .i64 2,.string ⟨#[]⟩,.int .i64 0,.slice none 0 0,.int .i64 t.line]) (by simp [results,Tryz.results168,go_sem,z0,z1,z2,z3,z4]) rfl HP.out
def yc (t:Tk) (res:PR Ex):PR Ex :=
 if zp t [40]=true then
  match res with
  | .error a=>.error a
  | .ok (e,us)=>if zp (zK us) [41]=true then .ok (e,us.tail) else .error (zK us).at0
 else .error t.at0
theorem yO (r g o cap:Nat) (t:Tk) (ts:List Tk) (w:World) (res:PR Ex) (hEnd:∀l us,res=.ok (l,us)→zi us) (hex:zp t [40]=true→∀w1 o1 cap1,zc r g o1 cap1 ts w1→zb r w w1→Calls Tryz.prog 74 #[.pointer (some ⟨r,0,none⟩)] w1 (zj r g w1 res)) (h:zc r g o cap (t::ts) w) (hE:zi (t::ts)) (hk1:t.k≠1) (hk2:t.k≠2) (hk3:t.k≠3) (hiT:zp t [116,114,117,101]=false) (hiF:zp t [102,97,108,115,101]=false) (hiN:zp t [110,101,119]=false) (hiB:zp t [91]=false) :
  Calls Tryz.prog 168 #[.pointer (some ⟨r,0,none⟩)] w (zj r g w (yc t res)):=by
 generalize hres:yc t res=R;have hr:=h.lt.1;have aA:=h.lt.2;have h0:=h.alloc zC;have ch:=z8 r g o cap t ts _ h0;obtain ⟨w2,I⟩:∃w2,w2=((w.alloc zC).alloc (zF t)).alloc (zF t):=⟨_,rfl⟩;have h2:zc r g o cap (t::ts) w2:=by rw [I];exact (h0.alloc _).alloc _
 have k2:zb r w w2:=by rw [I];exact (((zb.refl r w).alloc _).alloc _).alloc _
 have n0:w2.heap[w.heap.size]?=some zC:=by
  rw [I,Below.heap_alloc _ _ _ (by simp;omega),Below.heap_alloc _ _ _ (by simp)]
  exact World.alloc_heap_new _ _
 have n2:w2.heap[w.heap.size+1+1]?=some (zF t):=by
  have hx:=World.alloc_heap_new ((w.alloc zC).alloc (zF t)) (zF t);rw [←I,show ((w.alloc zC).alloc (zF t)).heap.size=w.heap.size+1+1 by simp] at hx
  exact hx
 have aH:w.heap.size+1+1<w2.heap.size:=(Array.getElem?_eq_some_iff.1 n2).1;have ar:Hid (w2=((w.alloc zC).alloc (zF t)).alloc (zF t)):=I;have K:Hid (zb r w w2):=k2;have az:Hid (w2.heap[w.heap.size]?=some zC):=n0;have aG:Hid (w2.heap[w.heap.size+1+1]?=some (zF t)):=n2;have aE:¬(t.k:Int)=1:=by omega
 have aD:¬(t.k:Int)=2:=by omega
 have aB:¬(t.k:Int)=3:=by omega
 clear h h0 I k2 n0 n2
 go_enter Tryz.func168,Tryz.ntmps168
 go_wp2_with fail
 refine ch.mono ?_;clear ch;rintro e w1 ⟨rfl,rfl⟩;simp only [Y2];have ah:Hid (zb r w2 w2):=zb.refl r w2;have X:Hid (zc r g o cap (t::ts) w2):=h2;clear h2;have E:=z6 r g o cap t ts [116,114,117,101] w2 X.out (fun hi=>(hE.tail (zg hi)).ne)
 rw [hiT] at E;go_wp2_with fail
 rw [←ar.out];refine E.mono ?_;clear E;rintro e w3 ⟨rfl,y,z⟩;have Z:Hid (zb r w2 w3):=ah.out.trans y;have aj:Hid (zc r g o cap (t::ts) w3):=show zc _ _ _ _ _ _ by simpa using z
 clear y z ah X;clear ar;have E:=z6 r g o cap t ts [102,97,108,115,101] w3 aj.out (fun hi=>(hE.tail (zg hi)).ne)
 rw [hiF] at E;go_wp2_with fail
 refine E.mono ?_;clear E;rintro e w4 ⟨rfl,y,z⟩;have ai:Hid (zb r w2 w4):=Z.out.trans y;have ab:Hid (zc r g o cap (t::ts) w4):=show zc _ _ _ _ _ _ by simpa using z
 clear y z Z aj;have E:=z6 r g o cap t ts [110,101,119] w4 ab.out (fun hi=>(hE.tail (zg hi)).ne)
 rw [hiN] at E;go_wp2_with fail
 refine E.mono ?_;clear E;rintro e w5 ⟨rfl,y,z⟩;have ag:Hid (zb r w2 w5):=ai.out.trans y;have V:Hid (zc r g o cap (t::ts) w5):=show zc _ _ _ _ _ _ by simpa using z
 clear y z ai ab;have E:=z6 r g o cap t ts [91] w5 V.out (fun hi=>(hE.tail (zg hi)).ne)
 rw [hiB] at E;go_wp2_with fail
 refine E.mono ?_;clear E;rintro e w6 ⟨rfl,y,z⟩;have J:Hid (zb r w2 w6):=ag.out.trans y;have Y:Hid (zc r g o cap (t::ts) w6):=show zc _ _ _ _ _ _ by simpa using z
 clear y z ag V;have G:=y6 r g o cap t ts [40] w6 Y.out (fun hi=>(hE.tail (zg hi)).ne)
 by_cases hi:zp t [40]=true
 ·simp only [if_pos hi] at G
  go_wp2_with fail
  refine G.mono ?_;clear G;rintro e w9 ⟨y,rfl,au⟩;have am:zb r w2 w9:=J.out.trans y;have c9:=hex hi w9 _ _ au (K.out.trans am);have aq:Hid (zb r w2 w9):=am;clear hex y au am J Y;go_wp2_with fail
  refine c9.mono ?_;clear c9;rintro e H ⟨N,M⟩;have ae:Hid (zb r w2 H):=aq.out.trans N;rcases res with a | ⟨x,us⟩
  ·obtain rfl:=M
   obtain rfl:R=.error a:=by rw [←hres];unfold yc;rw [if_pos hi]
   exact ⟨rfl,K.out.trans ae.out,rfl⟩
  ·obtain ⟨v,o3,aa,rfl,hx,ax⟩:=M
   obtain ⟨a,b,c,L,S,O,l,rfl⟩:=hx.agg;have aw:=hEnd x us rfl;obtain ⟨t3,T,rfl⟩:=aw.cons;obtain ⟨w11,D⟩:∃w11,w11=H.alloc (.cells #[.int .i64 a,.string b,.int .i64 c,.slice L S O,.int .i64 l] 90):=⟨_,rfl⟩;have av:zc r g o3 aa (t3::T) w11:=by rw [D];exact ax.alloc _
   have al:w11.heap[H.heap.size]?=some (.cells #[.int .i64 a,.string b,.int .i64 c,.slice L S O,.int .i64 l] 90 (0,0)):=by rw [D];exact World.alloc_heap_new _ _
   have U:Hid (zb r w2 w11):=show zb _ _ _ by rw [D];exact ae.out.alloc _
   have W:zN w9.heap.size w11 x (.agg #[.int .i64 a,.string b,.int .i64 c,.slice L S O,.int .i64 l]):=by rw [D];exact zN.kept hx (by simp) fun k _ hlt=>Below.heap_alloc _ _ _ hlt
   have ay:Hid (zN w9.heap.size w11 x (.agg #[.int .i64 a,.string b,.int .i64 c,.slice L S O,.int .i64 l])):=W;have ap:Hid (w11.heap[H.heap.size]?=some (.cells #[.int .i64 a,.string b,.int .i64 c,.slice L S O,.int .i64 l] 90 (0,0))):=al;have G:=y6 r g o3 aa t3 T [41] w11 av (fun hi=>(aw.tail (zg hi)).ne)
   have Q:Hid (w11=H.alloc (.cells #[.int .i64 a,.string b,.int .i64 c,.slice L S O,.int .i64 l] 90)):=D;have aF:=aq.out.size;have aC:=N.size;have an:H.heap.size<w11.heap.size:=(Array.getElem?_eq_some_iff.1 al).1;clear D av al W hx ax N
   by_cases hm:zp t3 [41]=true
   ·simp only [if_pos hm] at G
    obtain rfl:R=.ok (x,T):=by rw [←hres];unfold yc;rw [if_pos hi];simp only [zE,hm,if_true,List.tail_cons]
    go_wp2_with fail
    rw [←Q.out];refine G.mono ?_;clear G Q;rintro e ak ⟨A,rfl,af⟩;have ao:=U.out.trans A;have p0:=(ao.block _ (by omega) (by omega)).trans az.out
    have pB:=(A.block _ an (by omega)).trans ap.out
    obtain ⟨c0,c1,c2,c3,c4,-⟩:=zs pB;obtain ⟨q0,q1,q2,q3,q4,qf⟩:=zs p0;obtain ⟨z0,z1,z2,z3,z4⟩:=zq p0 (.int .i64 a) (.string b) (.int .i64 c) (.slice L S O) (.int .i64 l);have ad:zN w9.heap.size ak x (.agg #[.int .i64 a,.string b,.int .i64 c,.slice L S O,.int .i64 l]):=zN.kept ay.out A.size fun k hB hlt=>A.block k hlt (by omega)
    have HP:Hid (zj r g w (.ok (x,T)) (.returned (.agg #[.int .i64 a,.string b,.int .i64 c,.slice L S O,.int .i64 l])) (set5 ak w.heap.size (.int .i64 a) (.string b) (.int .i64 c) (.slice L S O) (.int .i64 l))) :=
     zj.of_set5' (K.out.trans ao) (Nat.le_refl _) hr aA ad (by omega) af
    clear ao A af p0 pB ad;go_wp2
    exact bodyPost_ret (v:=.agg #[.int .i64 a,.string b,.int .i64 c,.slice L S O,.int .i64 l]) (by simp [results,Tryz.results168,go_sem,z0,z1,z2,z3,z4]) rfl HP.out
   ·simp only [if_neg hm] at G
    obtain rfl:R=.error t3.at0:=by rw [←hres];unfold yc;rw [if_pos hi];simp only [zE,if_neg hm]
    go_wp2_with fail
    rw [←Q.out];refine G.mono ?_;clear G;rintro e ak ⟨A,rfl⟩;exact ⟨rfl,K.out.trans (U.out.trans A),rfl⟩
 ·simp only [if_neg hi] at G
  obtain rfl:R=.error t.at0:=by rw [←hres];unfold yc;rw [if_neg hi]
  clear hex hEnd;go_wp2_with fail
  refine G.mono ?_;clear G;rintro e w9 ⟨y,rfl⟩;exact ⟨rfl,K.out.trans (J.out.trans y),rfl⟩
end Go.Proofs.YtmbofhpmockmbaaGreatDoor
