import Derived.Test.YtmbofhpmockmbaaGreatDoorMC22
namespace Go.Proofs.YtmbofhpmockmbaaGreatDoor
open Go.RowKit Go.Shelf
set_option maxHeartbeats 16000000
set_option maxRecDepth 100000
theorem XF (r g o cap:Nat) (t:Tk) (ts:List Tk) (w:World) (h:zc r g o cap (t::ts) w) (hk:t.k=2) (hne:ts≠[]) :
  Calls Tryz.prog 168 #[.pointer (some ⟨r,0,none⟩)] w (zj r g w (.ok (.mk 1 [] t.n [] t.line,ts))):=by
 have W:=h.lt.1;have L:=h.lt.2;have J:=h.alloc zC;have R:=z8 r g o cap t ts _ J;obtain ⟨w2,y⟩:∃w2,w2=((w.alloc zC).alloc (zF t)).alloc (.cells #[.int .i64 2,.string (za t.s),.int .i64 t.n,.int .i64 t.line,.int .i64 t.at0] 142):=⟨_,rfl⟩;have G:zc r g o cap (t::ts) w2:=by rw [y];exact (J.alloc _).alloc _
 have M:zb r w w2:=by rw [y];exact (((zb.refl r w).alloc _).alloc _).alloc _
 have I:w2.heap[w.heap.size]?=some zC:=by
  rw [y,Below.heap_alloc _ _ _ (by simp;omega),Below.heap_alloc _ _ _ (by simp)]
  exact World.alloc_heap_new _ _
 have E:w2.heap[w.heap.size+1+1]?=some (.cells #[.int .i64 2,.string (za t.s),.int .i64 t.n,.int .i64 t.line,.int .i64 t.at0] 142):=by
  have O:=World.alloc_heap_new ((w.alloc zC).alloc (zF t)) (.cells #[.int .i64 2,.string (za t.s),.int .i64 t.n,.int .i64 t.line,.int .i64 t.at0] 142);rw [←y,show ((w.alloc zC).alloc (zF t)).heap.size=w.heap.size+1+1 by simp] at O
  exact O
 have K:w.heap.size+1+1<w2.heap.size:=(Array.getElem?_eq_some_iff.1 E).1;have D:Hid (w2=((w.alloc zC).alloc (zF t)).alloc (.cells #[.int .i64 2,.string (za t.s),.int .i64 t.n,.int .i64 t.line,.int .i64 t.at0] 142)):=y;clear h J y;have Q:=y5 r g o cap t ts w2 G hne
 go_enter Tryz.func168,Tryz.ntmps168
 go_wp2_with fail
 refine R.mono ?_;clear R;rintro e w1 ⟨rfl,rfl⟩;simp only [Y2];go_wp2_with fail
 rw [←D.out];refine Q.mono ?_;clear Q D;rintro e w3 ⟨rfl,z⟩;have N:zb r w w3:=by rw [z];exact M.setCell 0 _
 have A:zb r w2 w3:=by rw [z];exact (zb.refl r w2).setCell 0 _
 have T:zc r g (o+5) (cap-1) ts w3:=by rw [z];exact G.next
 have H:=(A.block _ (Array.getElem?_eq_some_iff.1 I).1 (by omega)).trans I
 have S:=(A.block _ K (by omega)).trans E
 obtain ⟨c0,c1,c2,c3,c4,-⟩:=zs S;obtain ⟨q0,q1,q2,q3,q4,qf⟩:=zs H;obtain ⟨Z,Y,X,z3,U⟩:=zq H (.int .i64 1) (.string ⟨#[]⟩) (.int .i64 t.n) (.slice none 0 0) (.int .i64 t.line)
 have V:Hid (zj r g w (.ok (.mk 1 [] t.n [] t.line,ts)) (.returned (.agg #[.int .i64 1,(.string ⟨#[]⟩),(.int .i64 t.n),.slice none 0 0,.int .i64 t.line])) (set5 w3 w.heap.size (.int .i64 1) (.string ⟨#[]⟩) (.int .i64 t.n) (.slice none 0 0) (.int .i64 t.line))) :=
  zj.of_set5 (B:=w.heap.size+1) 1 [] t.n t.line N (Nat.le_refl _) W L (.inl ⟨rfl,rfl⟩) (Nat.lt_succ_self _) T
 clear N A T H S I E G M z;go_wp2
 exact bodyPost_ret (v:=.agg #[.int .i64 1,(.string ⟨#[]⟩),(.int .i64 t.n),.slice none 0 0,.int .i64 t.line]) (by simp [results,Tryz.results168,go_sem,Z,Y,X,z3,U]) rfl V.out
theorem XG (r g o cap:Nat) (t:Tk) (ts:List Tk) (w:World) (h:zc r g o cap (t::ts) w) (hk:t.k=3) (hne:ts≠[]) :
  Calls Tryz.prog 168 #[.pointer (some ⟨r,0,none⟩)] w (zj r g w (.ok (.mk 3 t.s 0 [] t.line,ts))):=by
 have W:=h.lt.1;have L:=h.lt.2;have J:=h.alloc zC;have R:=z8 r g o cap t ts _ J;obtain ⟨w2,y⟩:∃w2,w2=((w.alloc zC).alloc (zF t)).alloc (.cells #[.int .i64 3,.string (za t.s),.int .i64 t.n,.int .i64 t.line,.int .i64 t.at0] 142):=⟨_,rfl⟩;have G:zc r g o cap (t::ts) w2:=by rw [y];exact (J.alloc _).alloc _
 have M:zb r w w2:=by rw [y];exact (((zb.refl r w).alloc _).alloc _).alloc _
 have I:w2.heap[w.heap.size]?=some zC:=by
  rw [y,Below.heap_alloc _ _ _ (by simp;omega),Below.heap_alloc _ _ _ (by simp)]
  exact World.alloc_heap_new _ _
 have E:w2.heap[w.heap.size+1+1]?=some (.cells #[.int .i64 3,.string (za t.s),.int .i64 t.n,.int .i64 t.line,.int .i64 t.at0] 142):=by
  have O:=World.alloc_heap_new ((w.alloc zC).alloc (zF t)) (.cells #[.int .i64 3,.string (za t.s),.int .i64 t.n,.int .i64 t.line,.int .i64 t.at0] 142);rw [←y,show ((w.alloc zC).alloc (zF t)).heap.size=w.heap.size+1+1 by simp] at O
  exact O
 have K:w.heap.size+1+1<w2.heap.size:=(Array.getElem?_eq_some_iff.1 E).1;have D:Hid (w2=((w.alloc zC).alloc (zF t)).alloc (.cells #[.int .i64 3,.string (za t.s),.int .i64 t.n,.int .i64 t.line,.int .i64 t.at0] 142)):=y;clear h J y;have Q:=y5 r g o cap t ts w2 G hne
 go_enter Tryz.func168,Tryz.ntmps168
 go_wp2_with fail
 refine R.mono ?_;clear R;rintro e w1 ⟨rfl,rfl⟩;simp only [Y2];go_wp2_with fail
 rw [←D.out];refine Q.mono ?_;clear Q D;rintro e w3 ⟨rfl,z⟩;have N:zb r w w3:=by rw [z];exact M.setCell 0 _
 have A:zb r w2 w3:=by rw [z];exact (zb.refl r w2).setCell 0 _
 have T:zc r g (o+5) (cap-1) ts w3:=by rw [z];exact G.next
 have H:=(A.block _ (Array.getElem?_eq_some_iff.1 I).1 (by omega)).trans I
 have S:=(A.block _ K (by omega)).trans E
 obtain ⟨c0,c1,c2,c3,c4,-⟩:=zs S;obtain ⟨q0,q1,q2,q3,q4,qf⟩:=zs H;obtain ⟨Z,Y,X,z3,U⟩:=zq H (.int .i64 3) (.string (za t.s)) (.int .i64 0) (.slice none 0 0) (.int .i64 t.line)
 have V:Hid (zj r g w (.ok (.mk 3 t.s 0 [] t.line,ts)) (.returned (.agg #[.int .i64 3,(.string (za t.s)),(.int .i64 0),.slice none 0 0,.int .i64 t.line])) (set5 w3 w.heap.size (.int .i64 3) (.string (za t.s)) (.int .i64 0) (.slice none 0 0) (.int .i64 t.line))) :=
  zj.of_set5 (B:=w.heap.size+1) 3 t.s 0 t.line N (Nat.le_refl _) W L (.inl ⟨rfl,rfl⟩) (Nat.lt_succ_self _) T
 clear N A T H S I E G M z;go_wp2
 exact bodyPost_ret (v:=.agg #[.int .i64 3,(.string (za t.s)),(.int .i64 0),.slice none 0 0,.int .i64 t.line]) (by simp [results,Tryz.results168,go_sem,Z,Y,X,z3,U]) rfl V.out
theorem xY (r g o cap:Nat) (t:Tk) (ts:List Tk) (w:World) (res:PR Ex) (h:zc r g o cap (t::ts) w) (hk:t.k=1)
  (hn:∀G,zc r g o cap (t::ts) G→zb r w G→Calls Tryz.prog 176 #[.pointer (some ⟨r,0,none⟩)] G (zj r g G res)) :
  Calls Tryz.prog 168 #[.pointer (some ⟨r,0,none⟩)] w (zj r g w res):=by
 have hr:=h.lt.1;have R:=h.lt.2;have Q:=h.alloc zC;have V:=z8 r g o cap t ts _ Q;obtain ⟨w2,y⟩:∃w2,w2=((w.alloc zC).alloc (zF t)).alloc (.cells #[.int .i64 1,.string (za t.s),.int .i64 t.n,.int .i64 t.line,.int .i64 t.at0] 142):=⟨_,rfl⟩;have T:zc r g o cap (t::ts) w2:=by rw [y];exact (Q.alloc _).alloc _
 have L:zb r w w2:=by rw [y];exact (((zb.refl r w).alloc _).alloc _).alloc _
 have O:w2.heap[w.heap.size]?=some zC:=by
  rw [y,Below.heap_alloc _ _ _ (by simp;omega),Below.heap_alloc _ _ _ (by simp)]
  exact World.alloc_heap_new _ _
 have S:w2.heap[w.heap.size+1+1]?=some (.cells #[.int .i64 1,.string (za t.s),.int .i64 t.n,.int .i64 t.line,.int .i64 t.at0] 142):=by
  have D:=World.alloc_heap_new ((w.alloc zC).alloc (zF t)) (.cells #[.int .i64 1,.string (za t.s),.int .i64 t.n,.int .i64 t.line,.int .i64 t.at0] 142);rw [←y,show ((w.alloc zC).alloc (zF t)).heap.size=w.heap.size+1+1 by simp] at D
  exact D
 have aa:w.heap.size+1+1<w2.heap.size:=(Array.getElem?_eq_some_iff.1 S).1;have E:Hid (w2=((w.alloc zC).alloc (zF t)).alloc (.cells #[.int .i64 1,.string (za t.s),.int .i64 t.n,.int .i64 t.line,.int .i64 t.at0] 142)):=y;clear h Q y;have U:=hn w2 T L;clear hn
 go_enter Tryz.func168,Tryz.ntmps168
 go_wp2_with fail
 refine V.mono ?_;clear V;rintro e G ⟨rfl,rfl⟩;simp only [Y2];go_wp2_with fail
 rw [←E.out];refine U.mono ?_;clear U E;rintro e w3 ⟨A,z⟩;have M:zb r w w3:=L.trans A;rcases res with a | ⟨x,Z⟩
 ·obtain rfl:=z
  exact ⟨rfl,M,rfl⟩
 ·obtain ⟨v,o3,W,rfl,D,H⟩:=z
  obtain ⟨a,b,c,I,K,J,l,rfl⟩:=D.agg;have N:=(A.block _ (Array.getElem?_eq_some_iff.1 O).1 (by omega)).trans O
  obtain ⟨q0,q1,q2,q3,q4,qf⟩:=zs N;obtain ⟨z0,z1,z2,z3,X⟩:=zq N (.int .i64 a) (.string b) (.int .i64 c) (.slice I K J) (.int .i64 l)
  have Y:Hid (zj r g w (.ok (x,Z)) (.returned (.agg #[.int .i64 a,.string b,.int .i64 c,.slice I K J,.int .i64 l])) (set5 w3 w.heap.size (.int .i64 a) (.string b) (.int .i64 c) (.slice I K J) (.int .i64 l))) :=
   zj.of_set5' M (Nat.le_refl _) hr R D (by omega) H
  clear M A N O S T L D H;go_wp2
  exact bodyPost_ret (v:=.agg #[.int .i64 a,.string b,.int .i64 c,.slice I K J,.int .i64 l]) (by simp [results,Tryz.results168,go_sem,z0,z1,z2,z3,X]) rfl Y.out
end Go.Proofs.YtmbofhpmockmbaaGreatDoor
