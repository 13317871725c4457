import Derived.Test.YtmbofhpmockmbaaGreatDoorMC20
namespace Go.Proofs.YtmbofhpmockmbaaGreatDoor
open Go.RowKit Go.Shelf
set_option maxHeartbeats 16000000
set_option maxRecDepth 100000
theorem xR (r g o cap:Nat) (t:Tk) (ts:List Tk) (w:World) (h:zc r g o cap (t::ts) w) (hk:t.k=2) (hne:ts≠[]) :
  Calls Tryz.prog 168 #[.pointer (some ⟨r,0,none⟩)] w (zi r g w (.ok (.mk 1 [] t.n [] t.line,ts))):=by
 have T:=h.lt.1;have D:=h.lt.2;have G:=h.alloc zA;have S:=zZ r g o cap t ts _ G;obtain ⟨w2,x⟩:∃w2,w2=((w.alloc zA).alloc (zE t)).alloc (.cells #[.int .i64 2,.string (za t.s),.int .i64 t.n,.int .i64 t.line,.int .i64 t.at0] 142):=⟨_,rfl⟩;have H:zc r g o cap (t::ts) w2:=by rw [x];exact (G.alloc _).alloc _
 have O:zb r w w2:=by rw [x];exact (((zb.refl r w).alloc _).alloc _).alloc _
 have J:w2.heap[w.heap.size]?=some zA:=by
  rw [x,Below.heap_alloc _ _ _ (by simp;omega),Below.heap_alloc _ _ _ (by simp)]
  exact World.alloc_heap_new _ _
 have K:w2.heap[w.heap.size+1+1]?=some (.cells #[.int .i64 2,.string (za t.s),.int .i64 t.n,.int .i64 t.line,.int .i64 t.at0] 142):=by
  have R:=World.alloc_heap_new ((w.alloc zA).alloc (zE t)) (.cells #[.int .i64 2,.string (za t.s),.int .i64 t.n,.int .i64 t.line,.int .i64 t.at0] 142);rw [←x,show ((w.alloc zA).alloc (zE t)).heap.size=w.heap.size+1+1 by simp] at R
  exact R
 have I:w.heap.size+1+1<w2.heap.size:=(Array.getElem?_eq_some_iff.1 K).1;have A:Hid (w2=((w.alloc zA).alloc (zE t)).alloc (.cells #[.int .i64 2,.string (za t.s),.int .i64 t.n,.int .i64 t.line,.int .i64 t.at0] 142)):=x;clear h G x;have Q:=yO r g o cap t ts w2 H hne
 go_enter Tryz.func168,Tryz.ntmps168
 go_wp2_with fail
 refine S.mono ?_;clear S;rintro e w1 ⟨rfl,rfl⟩;simp only [YA];go_wp2_with fail
 rw [←A.out];refine Q.mono ?_;clear Q A;rintro e w3 ⟨rfl,y⟩;have L:zb r w w3:=by rw [y];exact O.setCell 0 _
 have z:zb r w2 w3:=by rw [y];exact (zb.refl r w2).setCell 0 _
 have M:zc r g (o+5) (cap-1) ts w3:=by rw [y];exact H.next
 have E:=(z.block _ (Array.getElem?_eq_some_iff.1 J).1 (by omega)).trans J
 have N:=(z.block _ I (by omega)).trans K
 obtain ⟨c0,c1,c2,c3,c4,-⟩:=zr N;obtain ⟨q0,q1,q2,q3,q4,qf⟩:=zr E;obtain ⟨V,U,Z,W,Y⟩:=zo E (.int .i64 1) (.string ⟨#[]⟩) (.int .i64 t.n) (.slice none 0 0) (.int .i64 t.line)
 have X:Hid (zi r g w (.ok (.mk 1 [] t.n [] t.line,ts)) (.returned (.agg #[.int .i64 1,(.string ⟨#[]⟩),(.int .i64 t.n),.slice none 0 0,.int .i64 t.line])) (set5 w3 w.heap.size (.int .i64 1) (.string ⟨#[]⟩) (.int .i64 t.n) (.slice none 0 0) (.int .i64 t.line))) :=
  zi.of_set5 (B:=w.heap.size+1) 1 [] t.n t.line L (Nat.le_refl _) T D (.inl ⟨rfl,rfl⟩) (Nat.lt_succ_self _) M
 clear L z M E N J K H O y;go_wp2
 exact bodyPost_ret (v:=.agg #[.int .i64 1,(.string ⟨#[]⟩),(.int .i64 t.n),.slice none 0 0,.int .i64 t.line]) (by simp [results,Tryz.results168,go_sem,V,U,Z,W,Y]) rfl X.out
theorem xS (r g o cap:Nat) (t:Tk) (ts:List Tk) (w:World) (h:zc r g o cap (t::ts) w) (hk:t.k=3) (hne:ts≠[]) :
  Calls Tryz.prog 168 #[.pointer (some ⟨r,0,none⟩)] w (zi r g w (.ok (.mk 3 t.s 0 [] t.line,ts))):=by
 have T:=h.lt.1;have D:=h.lt.2;have G:=h.alloc zA;have S:=zZ r g o cap t ts _ G;obtain ⟨w2,x⟩:∃w2,w2=((w.alloc zA).alloc (zE t)).alloc (.cells #[.int .i64 3,.string (za t.s),.int .i64 t.n,.int .i64 t.line,.int .i64 t.at0] 142):=⟨_,rfl⟩;have H:zc r g o cap (t::ts) w2:=by rw [x];exact (G.alloc _).alloc _
 have O:zb r w w2:=by rw [x];exact (((zb.refl r w).alloc _).alloc _).alloc _
 have J:w2.heap[w.heap.size]?=some zA:=by
  rw [x,Below.heap_alloc _ _ _ (by simp;omega),Below.heap_alloc _ _ _ (by simp)]
  exact World.alloc_heap_new _ _
 have K:w2.heap[w.heap.size+1+1]?=some (.cells #[.int .i64 3,.string (za t.s),.int .i64 t.n,.int .i64 t.line,.int .i64 t.at0] 142):=by
  have R:=World.alloc_heap_new ((w.alloc zA).alloc (zE t)) (.cells #[.int .i64 3,.string (za t.s),.int .i64 t.n,.int .i64 t.line,.int .i64 t.at0] 142);rw [←x,show ((w.alloc zA).alloc (zE t)).heap.size=w.heap.size+1+1 by simp] at R
  exact R
 have I:w.heap.size+1+1<w2.heap.size:=(Array.getElem?_eq_some_iff.1 K).1;have A:Hid (w2=((w.alloc zA).alloc (zE t)).alloc (.cells #[.int .i64 3,.string (za t.s),.int .i64 t.n,.int .i64 t.line,.int .i64 t.at0] 142)):=x;clear h G x;have Q:=yO r g o cap t ts w2 H hne
 go_enter Tryz.func168,Tryz.ntmps168
 go_wp2_with fail
 refine S.mono ?_;clear S;rintro e w1 ⟨rfl,rfl⟩;simp only [YA];go_wp2_with fail
 rw [←A.out];refine Q.mono ?_;clear Q A;rintro e w3 ⟨rfl,y⟩;have L:zb r w w3:=by rw [y];exact O.setCell 0 _
 have z:zb r w2 w3:=by rw [y];exact (zb.refl r w2).setCell 0 _
 have M:zc r g (o+5) (cap-1) ts w3:=by rw [y];exact H.next
 have E:=(z.block _ (Array.getElem?_eq_some_iff.1 J).1 (by omega)).trans J
 have N:=(z.block _ I (by omega)).trans K
 obtain ⟨c0,c1,c2,c3,c4,-⟩:=zr N;obtain ⟨q0,q1,q2,q3,q4,qf⟩:=zr E;obtain ⟨V,U,Z,W,Y⟩:=zo E (.int .i64 3) (.string (za t.s)) (.int .i64 0) (.slice none 0 0) (.int .i64 t.line)
 have X:Hid (zi r g w (.ok (.mk 3 t.s 0 [] t.line,ts)) (.returned (.agg #[.int .i64 3,(.string (za t.s)),(.int .i64 0),.slice none 0 0,.int .i64 t.line])) (set5 w3 w.heap.size (.int .i64 3) (.string (za t.s)) (.int .i64 0) (.slice none 0 0) (.int .i64 t.line))) :=
  zi.of_set5 (B:=w.heap.size+1) 3 t.s 0 t.line L (Nat.le_refl _) T D (.inl ⟨rfl,rfl⟩) (Nat.lt_succ_self _) M
 clear L z M E N J K H O y;go_wp2
 exact bodyPost_ret (v:=.agg #[.int .i64 3,(.string (za t.s)),(.int .i64 0),.slice none 0 0,.int .i64 t.line]) (by simp [results,Tryz.results168,go_sem,V,U,Z,W,Y]) rfl X.out
theorem xm (r g o cap:Nat) (t:Tk) (ts:List Tk) (w:World) (res:PR Ex) (h:zc r g o cap (t::ts) w) (hk:t.k=1)
  (hn:∀E,zc r g o cap (t::ts) E→zb r w E→Calls Tryz.prog 176 #[.pointer (some ⟨r,0,none⟩)] E (zi r g E res)) :
  Calls Tryz.prog 168 #[.pointer (some ⟨r,0,none⟩)] w (zi r g w res):=by
 have Y:=h.lt.1;have L:=h.lt.2;have N:=h.alloc zA;have W:=zZ r g o cap t ts _ N;obtain ⟨w2,y⟩:∃w2,w2=((w.alloc zA).alloc (zE t)).alloc (.cells #[.int .i64 1,.string (za t.s),.int .i64 t.n,.int .i64 t.line,.int .i64 t.at0] 142):=⟨_,rfl⟩;have T:zc r g o cap (t::ts) w2:=by rw [y];exact (N.alloc _).alloc _
 have R:zb r w w2:=by rw [y];exact (((zb.refl r w).alloc _).alloc _).alloc _
 have Q:w2.heap[w.heap.size]?=some zA:=by
  rw [y,Below.heap_alloc _ _ _ (by simp;omega),Below.heap_alloc _ _ _ (by simp)]
  exact World.alloc_heap_new _ _
 have U:w2.heap[w.heap.size+1+1]?=some (.cells #[.int .i64 1,.string (za t.s),.int .i64 t.n,.int .i64 t.line,.int .i64 t.at0] 142):=by
  have D:=World.alloc_heap_new ((w.alloc zA).alloc (zE t)) (.cells #[.int .i64 1,.string (za t.s),.int .i64 t.n,.int .i64 t.line,.int .i64 t.at0] 142);rw [←y,show ((w.alloc zA).alloc (zE t)).heap.size=w.heap.size+1+1 by simp] at D
  exact D
 have aa:w.heap.size+1+1<w2.heap.size:=(Array.getElem?_eq_some_iff.1 U).1;have H:Hid (w2=((w.alloc zA).alloc (zE t)).alloc (.cells #[.int .i64 1,.string (za t.s),.int .i64 t.n,.int .i64 t.line,.int .i64 t.at0] 142)):=y;clear h N y;have V:=hn w2 T R;clear hn
 go_enter Tryz.func168,Tryz.ntmps168
 go_wp2_with fail
 refine W.mono ?_;clear W;rintro e E ⟨rfl,rfl⟩;simp only [YA];go_wp2_with fail
 rw [←H.out];refine V.mono ?_;clear V H;rintro e w3 ⟨A,z⟩;have O:zb r w w3:=R.trans A;rcases res with a | ⟨x,X⟩
 ·obtain rfl:=z
  exact ⟨rfl,O,rfl⟩
 ·obtain ⟨v,o3,S,rfl,D,G⟩:=z
  obtain ⟨a,b,c,I,K,J,l,rfl⟩:=D.agg;have M:=(A.block _ (Array.getElem?_eq_some_iff.1 Q).1 (by omega)).trans Q
  obtain ⟨q0,q1,q2,q3,q4,qf⟩:=zr M;obtain ⟨z0,Z,z2,z3,z4⟩:=zo M (.int .i64 a) (.string b) (.int .i64 c) (.slice I K J) (.int .i64 l)
  have HP:Hid (zi r g w (.ok (x,X)) (.returned (.agg #[.int .i64 a,.string b,.int .i64 c,.slice I K J,.int .i64 l])) (set5 w3 w.heap.size (.int .i64 a) (.string b) (.int .i64 c) (.slice I K J) (.int .i64 l))) :=
   zi.of_set5' O (Nat.le_refl _) Y L D (by omega) G
  clear O A M Q U T R D G;go_wp2
  exact bodyPost_ret (v:=.agg #[.int .i64 a,.string b,.int .i64 c,.slice I K J,.int .i64 l]) (by simp [results,Tryz.results168,go_sem,z0,Z,z2,z3,z4]) rfl HP.out
end Go.Proofs.YtmbofhpmockmbaaGreatDoor
