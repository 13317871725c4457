import Derived.Test.YtmbofhpmockmbaaGreatDoorMC26
namespace Go.Proofs.YtmbofhpmockmbaaGreatDoor
open Go.RowKit Go.Shelf
set_option maxHeartbeats 16000000
set_option maxRecDepth 100000
theorem vH (r g o cap:Nat) (t:Tk) (ts:List Tk) (w:World) (h:zc r g o cap (t::ts) w) (hk:t.k=2) (hne:ts≠[]) :
  Calls Tryz.prog 168 #[.pointer (some ⟨r,0,none⟩)] w (zl r g w (.ok (.mk 1 [] t.n [] t.line,ts))):=by
 have Z:=h.lt.1;have H:=h.lt.2;have G:=h.alloc zE;have T:=Zk r g o cap t ts _ G;obtain ⟨w2,y⟩:∃w2,w2=((w.alloc zE).alloc (zJ t)).alloc (.cells #[.int .i64 2,.string (za t.s),.int .i64 t.n,.int .i64 t.line,.int .i64 t.at0] 142):=⟨_,rfl⟩;have K:zc r g o cap (t::ts) w2:=by rw [y];exact (G.alloc _).alloc _
 have V:zb r w w2:=by rw [y];exact (((zb.refl r w).alloc _).alloc _).alloc _
 have E:w2.heap[w.heap.size]?=some zE:=by
  rw [y,Below.heap_alloc _ _ _ (by simp;omega),Below.heap_alloc _ _ _ (by simp)]
  exact World.alloc_heap_new _ _
 have J:w2.heap[w.heap.size+1+1]?=some (.cells #[.int .i64 2,.string (za t.s),.int .i64 t.n,.int .i64 t.line,.int .i64 t.at0] 142):=by
  have O:=World.alloc_heap_new ((w.alloc zE).alloc (zJ t)) (.cells #[.int .i64 2,.string (za t.s),.int .i64 t.n,.int .i64 t.line,.int .i64 t.at0] 142);rw [←y,show ((w.alloc zE).alloc (zJ t)).heap.size=w.heap.size+1+1 by simp] at O
  exact O
 have I:w.heap.size+1+1<w2.heap.size:=(Array.getElem?_eq_some_iff.1 J).1;have D:Hid (w2=((w.alloc zE).alloc (zJ t)).alloc (.cells #[.int .i64 2,.string (za t.s),.int .i64 t.n,.int .i64 t.line,.int .i64 t.at0] 142)):=y;clear h G y;have M:=YN r g o cap t ts w2 K hne
 go_enter Tryz.func168,Tryz.ntmps168
 go_wp2_with fail
 refine T.mono ?_;clear T;rintro e w1 ⟨rfl,rfl⟩;simp only [xT];go_wp2_with fail
 rw [←D.out];refine M.mono ?_;clear M D;rintro e w3 ⟨rfl,z⟩;have Q:zb r w w3:=by rw [z];exact V.setCell 0 _
 have A:zb r w2 w3:=by rw [z];exact (zb.refl r w2).setCell 0 _
 have R:zc r g (o+5) (cap-1) ts w3:=by rw [z];exact K.next
 have L:=(A.block _ (Array.getElem?_eq_some_iff.1 E).1 (by omega)).trans E
 have U:=(A.block _ I (by omega)).trans J
 obtain ⟨c0,c1,c2,c3,c4,-⟩:=zv U;obtain ⟨q0,q1,q2,q3,q4,qf⟩:=zv L;obtain ⟨z0,Y,z2,X,W⟩:=zr L (.int .i64 1) (.string ⟨#[]⟩) (.int .i64 t.n) (.slice none 0 0) (.int .i64 t.line)
 have HP:Hid (zl r g w (.ok (.mk 1 [] t.n [] t.line,ts)) (.returned (.agg #[.int .i64 1,(.string ⟨#[]⟩),(.int .i64 t.n),.slice none 0 0,.int .i64 t.line])) (set5 w3 w.heap.size (.int .i64 1) (.string ⟨#[]⟩) (.int .i64 t.n) (.slice none 0 0) (.int .i64 t.line))) :=
  zl.of_set5 (B:=w.heap.size+1) 1 [] t.n t.line Q (Nat.le_refl _) Z H (.inl ⟨rfl,rfl⟩) (Nat.lt_succ_self _) R
 clear Q A R L U E J K V z;go_wp2
 exact bodyPost_ret (v:=.agg #[.int .i64 1,(.string ⟨#[]⟩),(.int .i64 t.n),.slice none 0 0,.int .i64 t.line]) (by simp [results,Tryz.results168,go_sem,z0,Y,z2,X,W]) rfl HP.out
theorem vI (r g o cap:Nat) (t:Tk) (ts:List Tk) (w:World) (h:zc r g o cap (t::ts) w) (hk:t.k=3) (hne:ts≠[]) :
  Calls Tryz.prog 168 #[.pointer (some ⟨r,0,none⟩)] w (zl r g w (.ok (.mk 3 t.s 0 [] t.line,ts))):=by
 have Z:=h.lt.1;have H:=h.lt.2;have G:=h.alloc zE;have T:=Zk r g o cap t ts _ G;obtain ⟨w2,y⟩:∃w2,w2=((w.alloc zE).alloc (zJ t)).alloc (.cells #[.int .i64 3,.string (za t.s),.int .i64 t.n,.int .i64 t.line,.int .i64 t.at0] 142):=⟨_,rfl⟩;have K:zc r g o cap (t::ts) w2:=by rw [y];exact (G.alloc _).alloc _
 have V:zb r w w2:=by rw [y];exact (((zb.refl r w).alloc _).alloc _).alloc _
 have E:w2.heap[w.heap.size]?=some zE:=by
  rw [y,Below.heap_alloc _ _ _ (by simp;omega),Below.heap_alloc _ _ _ (by simp)]
  exact World.alloc_heap_new _ _
 have J:w2.heap[w.heap.size+1+1]?=some (.cells #[.int .i64 3,.string (za t.s),.int .i64 t.n,.int .i64 t.line,.int .i64 t.at0] 142):=by
  have O:=World.alloc_heap_new ((w.alloc zE).alloc (zJ t)) (.cells #[.int .i64 3,.string (za t.s),.int .i64 t.n,.int .i64 t.line,.int .i64 t.at0] 142);rw [←y,show ((w.alloc zE).alloc (zJ t)).heap.size=w.heap.size+1+1 by simp] at O
  exact O
 have I:w.heap.size+1+1<w2.heap.size:=(Array.getElem?_eq_some_iff.1 J).1;have D:Hid (w2=((w.alloc zE).alloc (zJ t)).alloc (.cells #[.int .i64 3,.string (za t.s),.int .i64 t.n,.int .i64 t.line,.int .i64 t.at0] 142)):=y;clear h G y;have M:=YN r g o cap t ts w2 K hne
 go_enter Tryz.func168,Tryz.ntmps168
 go_wp2_with fail
 refine T.mono ?_;clear T;rintro e w1 ⟨rfl,rfl⟩;simp only [xT];go_wp2_with fail
 rw [←D.out];refine M.mono ?_;clear M D;rintro e w3 ⟨rfl,z⟩;have Q:zb r w w3:=by rw [z];exact V.setCell 0 _
 have A:zb r w2 w3:=by rw [z];exact (zb.refl r w2).setCell 0 _
 have R:zc r g (o+5) (cap-1) ts w3:=by rw [z];exact K.next
 have L:=(A.block _ (Array.getElem?_eq_some_iff.1 E).1 (by omega)).trans E
 have U:=(A.block _ I (by omega)).trans J
 obtain ⟨c0,c1,c2,c3,c4,-⟩:=zv U;obtain ⟨q0,q1,q2,q3,q4,qf⟩:=zv L;obtain ⟨z0,Y,z2,X,W⟩:=zr L (.int .i64 3) (.string (za t.s)) (.int .i64 0) (.slice none 0 0) (.int .i64 t.line)
 have HP:Hid (zl r g w (.ok (.mk 3 t.s 0 [] t.line,ts)) (.returned (.agg #[.int .i64 3,(.string (za t.s)),(.int .i64 0),.slice none 0 0,.int .i64 t.line])) (set5 w3 w.heap.size (.int .i64 3) (.string (za t.s)) (.int .i64 0) (.slice none 0 0) (.int .i64 t.line))) :=
  zl.of_set5 (B:=w.heap.size+1) 3 t.s 0 t.line Q (Nat.le_refl _) Z H (.inl ⟨rfl,rfl⟩) (Nat.lt_succ_self _) R
 clear Q A R L U E J K V z;go_wp2
 exact bodyPost_ret (v:=.agg #[.int .i64 3,(.string (za t.s)),(.int .i64 0),.slice none 0 0,.int .i64 t.line]) (by simp [results,Tryz.results168,go_sem,z0,Y,z2,X,W]) rfl HP.out
theorem XR (r g o cap:Nat) (t:Tk) (ts:List Tk) (w:World) (res:PR Ex) (h:zc r g o cap (t::ts) w) (hk:t.k=1)
  (hn:∀E,zc r g o cap (t::ts) E→zb r w E→Calls Tryz.prog 176 #[.pointer (some ⟨r,0,none⟩)] E (zl r g E res)) :
  Calls Tryz.prog 168 #[.pointer (some ⟨r,0,none⟩)] w (zl r g w res):=by
 have hr:=h.lt.1;have O:=h.lt.2;have M:=h.alloc zE;have V:=Zk r g o cap t ts _ M;obtain ⟨w2,y⟩:∃w2,w2=((w.alloc zE).alloc (zJ t)).alloc (.cells #[.int .i64 1,.string (za t.s),.int .i64 t.n,.int .i64 t.line,.int .i64 t.at0] 142):=⟨_,rfl⟩;have X:zc r g o cap (t::ts) w2:=by rw [y];exact (M.alloc _).alloc _
 have T:zb r w w2:=by rw [y];exact (((zb.refl r w).alloc _).alloc _).alloc _
 have L:w2.heap[w.heap.size]?=some zE:=by
  rw [y,Below.heap_alloc _ _ _ (by simp;omega),Below.heap_alloc _ _ _ (by simp)]
  exact World.alloc_heap_new _ _
 have W:w2.heap[w.heap.size+1+1]?=some (.cells #[.int .i64 1,.string (za t.s),.int .i64 t.n,.int .i64 t.line,.int .i64 t.at0] 142):=by
  have D:=World.alloc_heap_new ((w.alloc zE).alloc (zJ t)) (.cells #[.int .i64 1,.string (za t.s),.int .i64 t.n,.int .i64 t.line,.int .i64 t.at0] 142);rw [←y,show ((w.alloc zE).alloc (zJ t)).heap.size=w.heap.size+1+1 by simp] at D
  exact D
 have aa:w.heap.size+1+1<w2.heap.size:=(Array.getElem?_eq_some_iff.1 W).1;have H:Hid (w2=((w.alloc zE).alloc (zJ t)).alloc (.cells #[.int .i64 1,.string (za t.s),.int .i64 t.n,.int .i64 t.line,.int .i64 t.at0] 142)):=y;clear h M y;have U:=hn w2 X T;clear hn
 go_enter Tryz.func168,Tryz.ntmps168
 go_wp2_with fail
 refine V.mono ?_;clear V;rintro e E ⟨rfl,rfl⟩;simp only [xT];go_wp2_with fail
 rw [←H.out];refine U.mono ?_;clear U H;rintro e w3 ⟨A,z⟩;have Q:zb r w w3:=T.trans A;rcases res with a | ⟨x,us⟩
 ·obtain rfl:=z
  exact ⟨rfl,Q,rfl⟩
 ·obtain ⟨v,o3,Y,rfl,D,G⟩:=z
  obtain ⟨a,b,c,J,K,I,l,rfl⟩:=D.agg;have R:=(A.block _ (Array.getElem?_eq_some_iff.1 L).1 (by omega)).trans L
  obtain ⟨q0,q1,q2,q3,q4,qf⟩:=zv R;obtain ⟨z0,z1,z2,z3,Z⟩:=zr R (.int .i64 a) (.string b) (.int .i64 c) (.slice J K I) (.int .i64 l)
  have HP:Hid (zl r g w (.ok (x,us)) (.returned (.agg #[.int .i64 a,.string b,.int .i64 c,.slice J K I,.int .i64 l])) (set5 w3 w.heap.size (.int .i64 a) (.string b) (.int .i64 c) (.slice J K I) (.int .i64 l))) :=
   zl.of_set5' Q (Nat.le_refl _) hr O D (by omega) G
  clear Q A R L W X T D G;go_wp2
  exact bodyPost_ret (v:=.agg #[.int .i64 a,.string b,.int .i64 c,.slice J K I,.int .i64 l]) (by simp [results,Tryz.results168,go_sem,z0,z1,z2,z3,Z]) rfl HP.out
end Go.Proofs.YtmbofhpmockmbaaGreatDoor
