import Derived.Test.YtmbofhpmockmbaaGreatDoorMC22
namespace Go.Proofs.YtmbofhpmockmbaaGreatDoor
open Go.RowKit Go.Shelf
set_option maxHeartbeats 16000000
set_option maxRecDepth 100000
theorem X0 (r g o cap:Nat) (t:Tk) (ts:List Tk) (w:World) (h:zc r g o cap (t::ts) w) (hk:t.k=2) (hne:ts≠[]) :
  Calls Tryz.prog 168 #[.pointer (some ⟨r,0,none⟩)] w (zk r g w (.ok (.mk 1 [] t.n [] t.line,ts))):=by
 have hr:=h.lt.1;have I:=h.lt.2;have K:=h.alloc zD;have M:=Zd r g o cap t ts _ K;obtain ⟨w2,y⟩:∃w2,w2=((w.alloc zD).alloc (zH t)).alloc (.cells #[.int .i64 2,.string (za t.s),.int .i64 t.n,.int .i64 t.line,.int .i64 t.at0] 142):=⟨_,rfl⟩;have E:zc r g o cap (t::ts) w2:=by rw [y];exact (K.alloc _).alloc _
 have Q:zb r w w2:=by rw [y];exact (((zb.refl r w).alloc _).alloc _).alloc _
 have H:w2.heap[w.heap.size]?=some zD:=by
  rw [y,Below.heap_alloc _ _ _ (by simp;omega),Below.heap_alloc _ _ _ (by simp)]
  exact World.alloc_heap_new _ _
 have G:w2.heap[w.heap.size+1+1]?=some (.cells #[.int .i64 2,.string (za t.s),.int .i64 t.n,.int .i64 t.line,.int .i64 t.at0] 142):=by
  have T:=World.alloc_heap_new ((w.alloc zD).alloc (zH t)) (.cells #[.int .i64 2,.string (za t.s),.int .i64 t.n,.int .i64 t.line,.int .i64 t.at0] 142);rw [←y,show ((w.alloc zD).alloc (zH t)).heap.size=w.heap.size+1+1 by simp] at T
  exact T
 have L:w.heap.size+1+1<w2.heap.size:=(Array.getElem?_eq_some_iff.1 G).1;have D:Hid (w2=((w.alloc zD).alloc (zH t)).alloc (.cells #[.int .i64 2,.string (za t.s),.int .i64 t.n,.int .i64 t.line,.int .i64 t.at0] 142)):=y;clear h K y;have N:=Yn r g o cap t ts w2 E hne
 go_enter Tryz.func168,Tryz.ntmps168
 go_wp2_with fail
 refine M.mono ?_;clear M;rintro e w1 ⟨rfl,rfl⟩;simp only [xq];go_wp2_with fail
 rw [←D.out];refine N.mono ?_;clear N D;rintro e w3 ⟨rfl,z⟩;have R:zb r w w3:=by rw [z];exact Q.setCell 0 _
 have A:zb r w2 w3:=by rw [z];exact (zb.refl r w2).setCell 0 _
 have O:zc r g (o+5) (cap-1) ts w3:=by rw [z];exact E.next
 have J:=(A.block _ (Array.getElem?_eq_some_iff.1 H).1 (by omega)).trans H
 have U:=(A.block _ L (by omega)).trans G
 obtain ⟨c0,c1,c2,c3,c4,-⟩:=zt U;obtain ⟨q0,q1,q2,q3,q4,qf⟩:=zt J;obtain ⟨V,Y,W,X,Z⟩:=zq J (.int .i64 1) (.string ⟨#[]⟩) (.int .i64 t.n) (.slice none 0 0) (.int .i64 t.line)
 have HP:Hid (zk r g w (.ok (.mk 1 [] t.n [] t.line,ts)) (.returned (.agg #[.int .i64 1,(.string ⟨#[]⟩),(.int .i64 t.n),.slice none 0 0,.int .i64 t.line])) (set5 w3 w.heap.size (.int .i64 1) (.string ⟨#[]⟩) (.int .i64 t.n) (.slice none 0 0) (.int .i64 t.line))) :=
  zk.of_set5 (B:=w.heap.size+1) 1 [] t.n t.line R (Nat.le_refl _) hr I (.inl ⟨rfl,rfl⟩) (Nat.lt_succ_self _) O
 clear R A O J U H G E Q z;go_wp2
 exact bodyPost_ret (v:=.agg #[.int .i64 1,(.string ⟨#[]⟩),(.int .i64 t.n),.slice none 0 0,.int .i64 t.line]) (by simp [results,Tryz.results168,go_sem,V,Y,W,X,Z]) rfl HP.out
theorem X1 (r g o cap:Nat) (t:Tk) (ts:List Tk) (w:World) (h:zc r g o cap (t::ts) w) (hk:t.k=3) (hne:ts≠[]) :
  Calls Tryz.prog 168 #[.pointer (some ⟨r,0,none⟩)] w (zk r g w (.ok (.mk 3 t.s 0 [] t.line,ts))):=by
 have hr:=h.lt.1;have I:=h.lt.2;have K:=h.alloc zD;have M:=Zd r g o cap t ts _ K;obtain ⟨w2,y⟩:∃w2,w2=((w.alloc zD).alloc (zH t)).alloc (.cells #[.int .i64 3,.string (za t.s),.int .i64 t.n,.int .i64 t.line,.int .i64 t.at0] 142):=⟨_,rfl⟩;have E:zc r g o cap (t::ts) w2:=by rw [y];exact (K.alloc _).alloc _
 have Q:zb r w w2:=by rw [y];exact (((zb.refl r w).alloc _).alloc _).alloc _
 have H:w2.heap[w.heap.size]?=some zD:=by
  rw [y,Below.heap_alloc _ _ _ (by simp;omega),Below.heap_alloc _ _ _ (by simp)]
  exact World.alloc_heap_new _ _
 have G:w2.heap[w.heap.size+1+1]?=some (.cells #[.int .i64 3,.string (za t.s),.int .i64 t.n,.int .i64 t.line,.int .i64 t.at0] 142):=by
  have T:=World.alloc_heap_new ((w.alloc zD).alloc (zH t)) (.cells #[.int .i64 3,.string (za t.s),.int .i64 t.n,.int .i64 t.line,.int .i64 t.at0] 142);rw [←y,show ((w.alloc zD).alloc (zH t)).heap.size=w.heap.size+1+1 by simp] at T
  exact T
 have L:w.heap.size+1+1<w2.heap.size:=(Array.getElem?_eq_some_iff.1 G).1;have D:Hid (w2=((w.alloc zD).alloc (zH t)).alloc (.cells #[.int .i64 3,.string (za t.s),.int .i64 t.n,.int .i64 t.line,.int .i64 t.at0] 142)):=y;clear h K y;have N:=Yn r g o cap t ts w2 E hne
 go_enter Tryz.func168,Tryz.ntmps168
 go_wp2_with fail
 refine M.mono ?_;clear M;rintro e w1 ⟨rfl,rfl⟩;simp only [xq];go_wp2_with fail
 rw [←D.out];refine N.mono ?_;clear N D;rintro e w3 ⟨rfl,z⟩;have R:zb r w w3:=by rw [z];exact Q.setCell 0 _
 have A:zb r w2 w3:=by rw [z];exact (zb.refl r w2).setCell 0 _
 have O:zc r g (o+5) (cap-1) ts w3:=by rw [z];exact E.next
 have J:=(A.block _ (Array.getElem?_eq_some_iff.1 H).1 (by omega)).trans H
 have U:=(A.block _ L (by omega)).trans G
 obtain ⟨c0,c1,c2,c3,c4,-⟩:=zt U;obtain ⟨q0,q1,q2,q3,q4,qf⟩:=zt J;obtain ⟨V,Y,W,X,Z⟩:=zq J (.int .i64 3) (.string (za t.s)) (.int .i64 0) (.slice none 0 0) (.int .i64 t.line)
 have HP:Hid (zk r g w (.ok (.mk 3 t.s 0 [] t.line,ts)) (.returned (.agg #[.int .i64 3,(.string (za t.s)),(.int .i64 0),.slice none 0 0,.int .i64 t.line])) (set5 w3 w.heap.size (.int .i64 3) (.string (za t.s)) (.int .i64 0) (.slice none 0 0) (.int .i64 t.line))) :=
  zk.of_set5 (B:=w.heap.size+1) 3 t.s 0 t.line R (Nat.le_refl _) hr I (.inl ⟨rfl,rfl⟩) (Nat.lt_succ_self _) O
 clear R A O J U H G E Q z;go_wp2
 exact bodyPost_ret (v:=.agg #[.int .i64 3,(.string (za t.s)),(.int .i64 0),.slice none 0 0,.int .i64 t.line]) (by simp [results,Tryz.results168,go_sem,V,Y,W,X,Z]) rfl HP.out
theorem Xj (r g o cap:Nat) (t:Tk) (ts:List Tk) (w:World) (res:PR Ex) (h:zc r g o cap (t::ts) w) (hk:t.k=1)
  (hn:∀E,zc r g o cap (t::ts) E→zb r w E→Calls Tryz.prog 176 #[.pointer (some ⟨r,0,none⟩)] E (zk r g E res)) :
  Calls Tryz.prog 168 #[.pointer (some ⟨r,0,none⟩)] w (zk r g w res):=by
 have hr:=h.lt.1;have M:=h.lt.2;have R:=h.alloc zD;have V:=Zd r g o cap t ts _ R;obtain ⟨w2,y⟩:∃w2,w2=((w.alloc zD).alloc (zH t)).alloc (.cells #[.int .i64 1,.string (za t.s),.int .i64 t.n,.int .i64 t.line,.int .i64 t.at0] 142):=⟨_,rfl⟩;have T:zc r g o cap (t::ts) w2:=by rw [y];exact (R.alloc _).alloc _
 have O:zb r w w2:=by rw [y];exact (((zb.refl r w).alloc _).alloc _).alloc _
 have L:w2.heap[w.heap.size]?=some zD:=by
  rw [y,Below.heap_alloc _ _ _ (by simp;omega),Below.heap_alloc _ _ _ (by simp)]
  exact World.alloc_heap_new _ _
 have U:w2.heap[w.heap.size+1+1]?=some (.cells #[.int .i64 1,.string (za t.s),.int .i64 t.n,.int .i64 t.line,.int .i64 t.at0] 142):=by
  have D:=World.alloc_heap_new ((w.alloc zD).alloc (zH t)) (.cells #[.int .i64 1,.string (za t.s),.int .i64 t.n,.int .i64 t.line,.int .i64 t.at0] 142);rw [←y,show ((w.alloc zD).alloc (zH t)).heap.size=w.heap.size+1+1 by simp] at D
  exact D
 have aa:w.heap.size+1+1<w2.heap.size:=(Array.getElem?_eq_some_iff.1 U).1;have G:Hid (w2=((w.alloc zD).alloc (zH t)).alloc (.cells #[.int .i64 1,.string (za t.s),.int .i64 t.n,.int .i64 t.line,.int .i64 t.at0] 142)):=y;clear h R y;have W:=hn w2 T O;clear hn
 go_enter Tryz.func168,Tryz.ntmps168
 go_wp2_with fail
 refine V.mono ?_;clear V;rintro e E ⟨rfl,rfl⟩;simp only [xq];go_wp2_with fail
 rw [←G.out];refine W.mono ?_;clear W G;rintro e w3 ⟨A,z⟩;have Q:zb r w w3:=O.trans A;rcases res with a | ⟨x,us⟩
 ·obtain rfl:=z
  exact ⟨rfl,Q,rfl⟩
 ·obtain ⟨v,o3,X,rfl,D,H⟩:=z
  obtain ⟨a,b,c,I,J,K,l,rfl⟩:=D.agg;have N:=(A.block _ (Array.getElem?_eq_some_iff.1 L).1 (by omega)).trans L
  obtain ⟨q0,q1,q2,q3,q4,qf⟩:=zt N;obtain ⟨Y,z1,Z,z3,z4⟩:=zq N (.int .i64 a) (.string b) (.int .i64 c) (.slice I J K) (.int .i64 l)
  have HP:Hid (zk r g w (.ok (x,us)) (.returned (.agg #[.int .i64 a,.string b,.int .i64 c,.slice I J K,.int .i64 l])) (set5 w3 w.heap.size (.int .i64 a) (.string b) (.int .i64 c) (.slice I J K) (.int .i64 l))) :=
   zk.of_set5' Q (Nat.le_refl _) hr M D (by omega) H
  clear Q A N L U T O D H;go_wp2
  exact bodyPost_ret (v:=.agg #[.int .i64 a,.string b,.int .i64 c,.slice I J K,.int .i64 l]) (by simp [results,Tryz.results168,go_sem,Y,z1,Z,z3,z4]) rfl HP.out
end Go.Proofs.YtmbofhpmockmbaaGreatDoor
