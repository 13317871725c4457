import Derived.Test.YtmbofhpmockmbaaGreatDoorMC21
namespace Go.Proofs.YtmbofhpmockmbaaGreatDoor
open Go.RowKit Go.Shelf
set_option maxHeartbeats 16000000
set_option maxRecDepth 100000
theorem xR (r g o cap:Nat) (t:Tk) (ts:List Tk) (w:World) (h:zc r g o cap (t::ts) w) (hk:t.k=2) (hne:ts≠[]) :
  Calls Tryz.prog 168 #[.pointer (some ⟨r,0,none⟩)] w (zi r g w (.ok (.mk 1 [] t.n [] t.line,ts))):=by
 have Y:=h.lt.1;have K:=h.lt.2;have J:=h.alloc zA;have M:=zZ r g o cap t ts _ J;obtain ⟨w2,x⟩:∃w2,w2=((w.alloc zA).alloc (zE t)).alloc (.cells #[.int .i64 2,.string (za t.s),.int .i64 t.n,.int .i64 t.line,.int .i64 t.at0] 142):=⟨_,rfl⟩;have G:zc r g o cap (t::ts) w2:=by rw [x];exact (J.alloc _).alloc _
 have S:zb r w w2:=by rw [x];exact (((zb.refl r w).alloc _).alloc _).alloc _
 have D:w2.heap[w.heap.size]?=some zA:=by
  rw [x,Below.heap_alloc _ _ _ (by simp;omega),Below.heap_alloc _ _ _ (by simp)]
  exact World.alloc_heap_new _ _
 have I:w2.heap[w.heap.size+1+1]?=some (.cells #[.int .i64 2,.string (za t.s),.int .i64 t.n,.int .i64 t.line,.int .i64 t.at0] 142):=by
  have L:=World.alloc_heap_new ((w.alloc zA).alloc (zE t)) (.cells #[.int .i64 2,.string (za t.s),.int .i64 t.n,.int .i64 t.line,.int .i64 t.at0] 142);rw [←x,show ((w.alloc zA).alloc (zE t)).heap.size=w.heap.size+1+1 by simp] at L
  exact L
 have E:w.heap.size+1+1<w2.heap.size:=(Array.getElem?_eq_some_iff.1 I).1;have A:Hid (w2=((w.alloc zA).alloc (zE t)).alloc (.cells #[.int .i64 2,.string (za t.s),.int .i64 t.n,.int .i64 t.line,.int .i64 t.at0] 142)):=x;clear h J x;have R:=yO r g o cap t ts w2 G hne
 go_enter Tryz.func168,Tryz.ntmps168
 go_wp2_with fail
 refine M.mono ?_;clear M;rintro e w1 ⟨rfl,rfl⟩;simp only [YA];go_wp2_with fail
 rw [←A.out];refine R.mono ?_;clear R A;rintro e w3 ⟨rfl,y⟩;have Q:zb r w w3:=by rw [y];exact S.setCell 0 _
 have z:zb r w2 w3:=by rw [y];exact (zb.refl r w2).setCell 0 _
 have O:zc r g (o+5) (cap-1) ts w3:=by rw [y];exact G.next
 have H:=(z.block _ (Array.getElem?_eq_some_iff.1 D).1 (by omega)).trans D
 have N:=(z.block _ E (by omega)).trans I
 obtain ⟨c0,c1,c2,c3,c4,-⟩:=zr N;obtain ⟨q0,q1,q2,q3,q4,qf⟩:=zr H;obtain ⟨T,X,Z,W,U⟩:=zo H (.int .i64 1) (.string ⟨#[]⟩) (.int .i64 t.n) (.slice none 0 0) (.int .i64 t.line)
 have V:Hid (zi r g w (.ok (.mk 1 [] t.n [] t.line,ts)) (.returned (.agg #[.int .i64 1,(.string ⟨#[]⟩),(.int .i64 t.n),.slice none 0 0,.int .i64 t.line])) (set5 w3 w.heap.size (.int .i64 1) (.string ⟨#[]⟩) (.int .i64 t.n) (.slice none 0 0) (.int .i64 t.line))) :=
  zi.of_set5 (B:=w.heap.size+1) 1 [] t.n t.line Q (Nat.le_refl _) Y K (.inl ⟨rfl,rfl⟩) (Nat.lt_succ_self _) O
 clear Q z O H N D I G S y;go_wp2
 exact bodyPost_ret (v:=.agg #[.int .i64 1,(.string ⟨#[]⟩),(.int .i64 t.n),.slice none 0 0,.int .i64 t.line]) (by simp [results,Tryz.results168,go_sem,T,X,Z,W,U]) rfl V.out
theorem xS (r g o cap:Nat) (t:Tk) (ts:List Tk) (w:World) (h:zc r g o cap (t::ts) w) (hk:t.k=3) (hne:ts≠[]) :
  Calls Tryz.prog 168 #[.pointer (some ⟨r,0,none⟩)] w (zi r g w (.ok (.mk 3 t.s 0 [] t.line,ts))):=by
 have Y:=h.lt.1;have K:=h.lt.2;have J:=h.alloc zA;have M:=zZ r g o cap t ts _ J;obtain ⟨w2,x⟩:∃w2,w2=((w.alloc zA).alloc (zE t)).alloc (.cells #[.int .i64 3,.string (za t.s),.int .i64 t.n,.int .i64 t.line,.int .i64 t.at0] 142):=⟨_,rfl⟩;have G:zc r g o cap (t::ts) w2:=by rw [x];exact (J.alloc _).alloc _
 have S:zb r w w2:=by rw [x];exact (((zb.refl r w).alloc _).alloc _).alloc _
 have D:w2.heap[w.heap.size]?=some zA:=by
  rw [x,Below.heap_alloc _ _ _ (by simp;omega),Below.heap_alloc _ _ _ (by simp)]
  exact World.alloc_heap_new _ _
 have I:w2.heap[w.heap.size+1+1]?=some (.cells #[.int .i64 3,.string (za t.s),.int .i64 t.n,.int .i64 t.line,.int .i64 t.at0] 142):=by
  have L:=World.alloc_heap_new ((w.alloc zA).alloc (zE t)) (.cells #[.int .i64 3,.string (za t.s),.int .i64 t.n,.int .i64 t.line,.int .i64 t.at0] 142);rw [←x,show ((w.alloc zA).alloc (zE t)).heap.size=w.heap.size+1+1 by simp] at L
  exact L
 have E:w.heap.size+1+1<w2.heap.size:=(Array.getElem?_eq_some_iff.1 I).1;have A:Hid (w2=((w.alloc zA).alloc (zE t)).alloc (.cells #[.int .i64 3,.string (za t.s),.int .i64 t.n,.int .i64 t.line,.int .i64 t.at0] 142)):=x;clear h J x;have R:=yO r g o cap t ts w2 G hne
 go_enter Tryz.func168,Tryz.ntmps168
 go_wp2_with fail
 refine M.mono ?_;clear M;rintro e w1 ⟨rfl,rfl⟩;simp only [YA];go_wp2_with fail
 rw [←A.out];refine R.mono ?_;clear R A;rintro e w3 ⟨rfl,y⟩;have Q:zb r w w3:=by rw [y];exact S.setCell 0 _
 have z:zb r w2 w3:=by rw [y];exact (zb.refl r w2).setCell 0 _
 have O:zc r g (o+5) (cap-1) ts w3:=by rw [y];exact G.next
 have H:=(z.block _ (Array.getElem?_eq_some_iff.1 D).1 (by omega)).trans D
 have N:=(z.block _ E (by omega)).trans I
 obtain ⟨c0,c1,c2,c3,c4,-⟩:=zr N;obtain ⟨q0,q1,q2,q3,q4,qf⟩:=zr H;obtain ⟨T,X,Z,W,U⟩:=zo H (.int .i64 3) (.string (za t.s)) (.int .i64 0) (.slice none 0 0) (.int .i64 t.line)
 have V:Hid (zi r g w (.ok (.mk 3 t.s 0 [] t.line,ts)) (.returned (.agg #[.int .i64 3,(.string (za t.s)),(.int .i64 0),.slice none 0 0,.int .i64 t.line])) (set5 w3 w.heap.size (.int .i64 3) (.string (za t.s)) (.int .i64 0) (.slice none 0 0) (.int .i64 t.line))) :=
  zi.of_set5 (B:=w.heap.size+1) 3 t.s 0 t.line Q (Nat.le_refl _) Y K (.inl ⟨rfl,rfl⟩) (Nat.lt_succ_self _) O
 clear Q z O H N D I G S y;go_wp2
 exact bodyPost_ret (v:=.agg #[.int .i64 3,(.string (za t.s)),(.int .i64 0),.slice none 0 0,.int .i64 t.line]) (by simp [results,Tryz.results168,go_sem,T,X,Z,W,U]) rfl V.out
theorem xm (r g o cap:Nat) (t:Tk) (ts:List Tk) (w:World) (res:PR Ex) (h:zc r g o cap (t::ts) w) (hk:t.k=1)
  (hn:∀E,zc r g o cap (t::ts) E→zb r w E→Calls Tryz.prog 176 #[.pointer (some ⟨r,0,none⟩)] E (zi r g E res)) :
  Calls Tryz.prog 168 #[.pointer (some ⟨r,0,none⟩)] w (zi r g w res):=by
 have hr:=h.lt.1;have R:=h.lt.2;have Q:=h.alloc zA;have T:=zZ r g o cap t ts _ Q;obtain ⟨w2,y⟩:∃w2,w2=((w.alloc zA).alloc (zE t)).alloc (.cells #[.int .i64 1,.string (za t.s),.int .i64 t.n,.int .i64 t.line,.int .i64 t.at0] 142):=⟨_,rfl⟩;have V:zc r g o cap (t::ts) w2:=by rw [y];exact (Q.alloc _).alloc _
 have N:zb r w w2:=by rw [y];exact (((zb.refl r w).alloc _).alloc _).alloc _
 have L:w2.heap[w.heap.size]?=some zA:=by
  rw [y,Below.heap_alloc _ _ _ (by simp;omega),Below.heap_alloc _ _ _ (by simp)]
  exact World.alloc_heap_new _ _
 have W:w2.heap[w.heap.size+1+1]?=some (.cells #[.int .i64 1,.string (za t.s),.int .i64 t.n,.int .i64 t.line,.int .i64 t.at0] 142):=by
  have D:=World.alloc_heap_new ((w.alloc zA).alloc (zE t)) (.cells #[.int .i64 1,.string (za t.s),.int .i64 t.n,.int .i64 t.line,.int .i64 t.at0] 142);rw [←y,show ((w.alloc zA).alloc (zE t)).heap.size=w.heap.size+1+1 by simp] at D
  exact D
 have aa:w.heap.size+1+1<w2.heap.size:=(Array.getElem?_eq_some_iff.1 W).1;have G:Hid (w2=((w.alloc zA).alloc (zE t)).alloc (.cells #[.int .i64 1,.string (za t.s),.int .i64 t.n,.int .i64 t.line,.int .i64 t.at0] 142)):=y;clear h Q y;have U:=hn w2 V N;clear hn
 go_enter Tryz.func168,Tryz.ntmps168
 go_wp2_with fail
 refine T.mono ?_;clear T;rintro e E ⟨rfl,rfl⟩;simp only [YA];go_wp2_with fail
 rw [←G.out];refine U.mono ?_;clear U G;rintro e w3 ⟨A,z⟩;have M:zb r w w3:=N.trans A;rcases res with a | ⟨x,Z⟩
 ·obtain rfl:=z
  exact ⟨rfl,M,rfl⟩
 ·obtain ⟨v,o3,S,rfl,D,H⟩:=z
  obtain ⟨a,b,c,J,K,I,l,rfl⟩:=D.agg;have O:=(A.block _ (Array.getElem?_eq_some_iff.1 L).1 (by omega)).trans L
  obtain ⟨q0,q1,q2,q3,q4,qf⟩:=zr O;obtain ⟨X,z1,z2,z3,Y⟩:=zo O (.int .i64 a) (.string b) (.int .i64 c) (.slice J K I) (.int .i64 l)
  have HP:Hid (zi r g w (.ok (x,Z)) (.returned (.agg #[.int .i64 a,.string b,.int .i64 c,.slice J K I,.int .i64 l])) (set5 w3 w.heap.size (.int .i64 a) (.string b) (.int .i64 c) (.slice J K I) (.int .i64 l))) :=
   zi.of_set5' M (Nat.le_refl _) hr R D (by omega) H
  clear M A O L W V N D H;go_wp2
  exact bodyPost_ret (v:=.agg #[.int .i64 a,.string b,.int .i64 c,.slice J K I,.int .i64 l]) (by simp [results,Tryz.results168,go_sem,X,z1,z2,z3,Y]) rfl HP.out
end Go.Proofs.YtmbofhpmockmbaaGreatDoor
