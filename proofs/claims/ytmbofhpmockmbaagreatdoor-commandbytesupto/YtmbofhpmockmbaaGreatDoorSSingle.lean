import Derived.Test.YtmbofhpmockmbaaGreatDoorMC22
namespace Go.Proofs.YtmbofhpmockmbaaGreatDoor
open Go.RowKit Go.Shelf
set_option maxHeartbeats 16000000
set_option maxRecDepth 100000
theorem X0 (r g o cap:Nat) (t:Tk) (ts:List Tk) (w:World) (h:zc r g o cap (t::ts) w) (hk:t.k=2) (hne:ts≠[]) :
  Calls Tryz.prog 168 #[.pointer (some ⟨r,0,none⟩)] w (zk r g w (.ok (.mk 1 [] t.n [] t.line,ts))):=by
 have hr:=h.lt.1;have K:=h.lt.2;have J:=h.alloc zD;have N:=Zd r g o cap t ts _ J;obtain ⟨w2,y⟩:∃w2,w2=((w.alloc zD).alloc (zH t)).alloc (.cells #[.int .i64 2,.string (za t.s),.int .i64 t.n,.int .i64 t.line,.int .i64 t.at0] 142):=⟨_,rfl⟩;have L:zc r g o cap (t::ts) w2:=by rw [y];exact (J.alloc _).alloc _
 have M:zb r w w2:=by rw [y];exact (((zb.refl r w).alloc _).alloc _).alloc _
 have I:w2.heap[w.heap.size]?=some zD:=by
  rw [y,Below.heap_alloc _ _ _ (by simp;omega),Below.heap_alloc _ _ _ (by simp)]
  exact World.alloc_heap_new _ _
 have H:w2.heap[w.heap.size+1+1]?=some (.cells #[.int .i64 2,.string (za t.s),.int .i64 t.n,.int .i64 t.line,.int .i64 t.at0] 142):=by
  have R:=World.alloc_heap_new ((w.alloc zD).alloc (zH t)) (.cells #[.int .i64 2,.string (za t.s),.int .i64 t.n,.int .i64 t.line,.int .i64 t.at0] 142);rw [←y,show ((w.alloc zD).alloc (zH t)).heap.size=w.heap.size+1+1 by simp] at R
  exact R
 have E:w.heap.size+1+1<w2.heap.size:=(Array.getElem?_eq_some_iff.1 H).1;have D:Hid (w2=((w.alloc zD).alloc (zH t)).alloc (.cells #[.int .i64 2,.string (za t.s),.int .i64 t.n,.int .i64 t.line,.int .i64 t.at0] 142)):=y;clear h J y;have O:=Yn r g o cap t ts w2 L hne
 go_enter Tryz.func168,Tryz.ntmps168
 go_wp2_with fail
 refine N.mono ?_;clear N;rintro e w1 ⟨rfl,rfl⟩;simp only [xq];go_wp2_with fail
 rw [←D.out];refine O.mono ?_;clear O D;rintro e w3 ⟨rfl,z⟩;have T:zb r w w3:=by rw [z];exact M.setCell 0 _
 have A:zb r w2 w3:=by rw [z];exact (zb.refl r w2).setCell 0 _
 have Q:zc r g (o+5) (cap-1) ts w3:=by rw [z];exact L.next
 have G:=(A.block _ (Array.getElem?_eq_some_iff.1 I).1 (by omega)).trans I
 have U:=(A.block _ E (by omega)).trans H
 obtain ⟨c0,c1,c2,c3,c4,-⟩:=zt U;obtain ⟨q0,q1,q2,q3,q4,qf⟩:=zt G;obtain ⟨Z,X,W,V,z4⟩:=zq G (.int .i64 1) (.string ⟨#[]⟩) (.int .i64 t.n) (.slice none 0 0) (.int .i64 t.line)
 have Y:Hid (zk r g w (.ok (.mk 1 [] t.n [] t.line,ts)) (.returned (.agg #[.int .i64 1,(.string ⟨#[]⟩),(.int .i64 t.n),.slice none 0 0,.int .i64 t.line])) (set5 w3 w.heap.size (.int .i64 1) (.string ⟨#[]⟩) (.int .i64 t.n) (.slice none 0 0) (.int .i64 t.line))) :=
  zk.of_set5 (B:=w.heap.size+1) 1 [] t.n t.line T (Nat.le_refl _) hr K (.inl ⟨rfl,rfl⟩) (Nat.lt_succ_self _) Q
 clear T A Q G U I H L M z;go_wp2
 exact bodyPost_ret (v:=.agg #[.int .i64 1,(.string ⟨#[]⟩),(.int .i64 t.n),.slice none 0 0,.int .i64 t.line]) (by simp [results,Tryz.results168,go_sem,Z,X,W,V,z4]) rfl Y.out
theorem X1 (r g o cap:Nat) (t:Tk) (ts:List Tk) (w:World) (h:zc r g o cap (t::ts) w) (hk:t.k=3) (hne:ts≠[]) :
  Calls Tryz.prog 168 #[.pointer (some ⟨r,0,none⟩)] w (zk r g w (.ok (.mk 3 t.s 0 [] t.line,ts))):=by
 have hr:=h.lt.1;have K:=h.lt.2;have J:=h.alloc zD;have N:=Zd r g o cap t ts _ J;obtain ⟨w2,y⟩:∃w2,w2=((w.alloc zD).alloc (zH t)).alloc (.cells #[.int .i64 3,.string (za t.s),.int .i64 t.n,.int .i64 t.line,.int .i64 t.at0] 142):=⟨_,rfl⟩;have L:zc r g o cap (t::ts) w2:=by rw [y];exact (J.alloc _).alloc _
 have M:zb r w w2:=by rw [y];exact (((zb.refl r w).alloc _).alloc _).alloc _
 have I:w2.heap[w.heap.size]?=some zD:=by
  rw [y,Below.heap_alloc _ _ _ (by simp;omega),Below.heap_alloc _ _ _ (by simp)]
  exact World.alloc_heap_new _ _
 have H:w2.heap[w.heap.size+1+1]?=some (.cells #[.int .i64 3,.string (za t.s),.int .i64 t.n,.int .i64 t.line,.int .i64 t.at0] 142):=by
  have R:=World.alloc_heap_new ((w.alloc zD).alloc (zH t)) (.cells #[.int .i64 3,.string (za t.s),.int .i64 t.n,.int .i64 t.line,.int .i64 t.at0] 142);rw [←y,show ((w.alloc zD).alloc (zH t)).heap.size=w.heap.size+1+1 by simp] at R
  exact R
 have E:w.heap.size+1+1<w2.heap.size:=(Array.getElem?_eq_some_iff.1 H).1;have D:Hid (w2=((w.alloc zD).alloc (zH t)).alloc (.cells #[.int .i64 3,.string (za t.s),.int .i64 t.n,.int .i64 t.line,.int .i64 t.at0] 142)):=y;clear h J y;have O:=Yn r g o cap t ts w2 L hne
 go_enter Tryz.func168,Tryz.ntmps168
 go_wp2_with fail
 refine N.mono ?_;clear N;rintro e w1 ⟨rfl,rfl⟩;simp only [xq];go_wp2_with fail
 rw [←D.out];refine O.mono ?_;clear O D;rintro e w3 ⟨rfl,z⟩;have T:zb r w w3:=by rw [z];exact M.setCell 0 _
 have A:zb r w2 w3:=by rw [z];exact (zb.refl r w2).setCell 0 _
 have Q:zc r g (o+5) (cap-1) ts w3:=by rw [z];exact L.next
 have G:=(A.block _ (Array.getElem?_eq_some_iff.1 I).1 (by omega)).trans I
 have U:=(A.block _ E (by omega)).trans H
 obtain ⟨c0,c1,c2,c3,c4,-⟩:=zt U;obtain ⟨q0,q1,q2,q3,q4,qf⟩:=zt G;obtain ⟨Z,X,W,V,z4⟩:=zq G (.int .i64 3) (.string (za t.s)) (.int .i64 0) (.slice none 0 0) (.int .i64 t.line)
 have Y:Hid (zk r g w (.ok (.mk 3 t.s 0 [] t.line,ts)) (.returned (.agg #[.int .i64 3,(.string (za t.s)),(.int .i64 0),.slice none 0 0,.int .i64 t.line])) (set5 w3 w.heap.size (.int .i64 3) (.string (za t.s)) (.int .i64 0) (.slice none 0 0) (.int .i64 t.line))) :=
  zk.of_set5 (B:=w.heap.size+1) 3 t.s 0 t.line T (Nat.le_refl _) hr K (.inl ⟨rfl,rfl⟩) (Nat.lt_succ_self _) Q
 clear T A Q G U I H L M z;go_wp2
 exact bodyPost_ret (v:=.agg #[.int .i64 3,(.string (za t.s)),(.int .i64 0),.slice none 0 0,.int .i64 t.line]) (by simp [results,Tryz.results168,go_sem,Z,X,W,V,z4]) rfl Y.out
theorem Xj (r g o cap:Nat) (t:Tk) (ts:List Tk) (w:World) (res:PR Ex) (h:zc r g o cap (t::ts) w) (hk:t.k=1)
  (hn:∀H,zc r g o cap (t::ts) H→zb r w H→Calls Tryz.prog 176 #[.pointer (some ⟨r,0,none⟩)] H (zk r g H res)) :
  Calls Tryz.prog 168 #[.pointer (some ⟨r,0,none⟩)] w (zk r g w res):=by
 have hr:=h.lt.1;have Q:=h.lt.2;have O:=h.alloc zD;have V:=Zd r g o cap t ts _ O;obtain ⟨w2,y⟩:∃w2,w2=((w.alloc zD).alloc (zH t)).alloc (.cells #[.int .i64 1,.string (za t.s),.int .i64 t.n,.int .i64 t.line,.int .i64 t.at0] 142):=⟨_,rfl⟩;have X:zc r g o cap (t::ts) w2:=by rw [y];exact (O.alloc _).alloc _
 have M:zb r w w2:=by rw [y];exact (((zb.refl r w).alloc _).alloc _).alloc _
 have N:w2.heap[w.heap.size]?=some zD:=by
  rw [y,Below.heap_alloc _ _ _ (by simp;omega),Below.heap_alloc _ _ _ (by simp)]
  exact World.alloc_heap_new _ _
 have T:w2.heap[w.heap.size+1+1]?=some (.cells #[.int .i64 1,.string (za t.s),.int .i64 t.n,.int .i64 t.line,.int .i64 t.at0] 142):=by
  have D:=World.alloc_heap_new ((w.alloc zD).alloc (zH t)) (.cells #[.int .i64 1,.string (za t.s),.int .i64 t.n,.int .i64 t.line,.int .i64 t.at0] 142);rw [←y,show ((w.alloc zD).alloc (zH t)).heap.size=w.heap.size+1+1 by simp] at D
  exact D
 have Z:w.heap.size+1+1<w2.heap.size:=(Array.getElem?_eq_some_iff.1 T).1;have E:Hid (w2=((w.alloc zD).alloc (zH t)).alloc (.cells #[.int .i64 1,.string (za t.s),.int .i64 t.n,.int .i64 t.line,.int .i64 t.at0] 142)):=y;clear h O y;have W:=hn w2 X M;clear hn
 go_enter Tryz.func168,Tryz.ntmps168
 go_wp2_with fail
 refine V.mono ?_;clear V;rintro e H ⟨rfl,rfl⟩;simp only [xq];go_wp2_with fail
 rw [←E.out];refine W.mono ?_;clear W E;rintro e w3 ⟨A,z⟩;have R:zb r w w3:=M.trans A;rcases res with a | ⟨x,us⟩
 ·obtain rfl:=z
  exact ⟨rfl,R,rfl⟩
 ·obtain ⟨v,o3,U,rfl,D,G⟩:=z
  obtain ⟨a,b,c,K,J,I,l,rfl⟩:=D.agg;have L:=(A.block _ (Array.getElem?_eq_some_iff.1 N).1 (by omega)).trans N
  obtain ⟨q0,q1,q2,q3,q4,qf⟩:=zt L;obtain ⟨z0,z1,z2,Y,z4⟩:=zq L (.int .i64 a) (.string b) (.int .i64 c) (.slice K J I) (.int .i64 l)
  have HP:Hid (zk r g w (.ok (x,us)) (.returned (.agg #[.int .i64 a,.string b,.int .i64 c,.slice K J I,.int .i64 l])) (set5 w3 w.heap.size (.int .i64 a) (.string b) (.int .i64 c) (.slice K J I) (.int .i64 l))) :=
   zk.of_set5' R (Nat.le_refl _) hr Q D (by omega) G
  clear R A L N T X M D G;go_wp2
  exact bodyPost_ret (v:=.agg #[.int .i64 a,.string b,.int .i64 c,.slice K J I,.int .i64 l]) (by simp [results,Tryz.results168,go_sem,z0,z1,z2,Y,z4]) rfl HP.out
end Go.Proofs.YtmbofhpmockmbaaGreatDoor
