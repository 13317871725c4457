import Derived.Test.YtmbofhpmockmbaaGreatDoorMC14
import Derived.Test.YtmbofhpmockmbaaGreatDoorSSingle2
import Derived.Test.YtmbofhpmockmbaaGreatDoorMC17
import Derived.Test.YtmbofhpmockmbaaGreatDoorMC18
import Derived.Test.YtmbofhpmockmbaaGreatDoorSParts
namespace Go.Proofs.YtmbofhpmockmbaaGreatDoor
open Go.RowKit Go.Shelf
set_option maxHeartbeats 16000000
set_option maxRecDepth 100000
theorem uE (r g o cap:Nat) (t:Tk) (ts:List Tk) (w:World) (h:zk r g o cap (t::ts) w) (hk:t.k=2) (hne:ts≠[]) :
  Calls Tryz.prog 168 #[.pointer (some ⟨r,0,none⟩)] w (zu r g w (.ok (.mk 1 [] t.n [] t.line,ts))):=by
 have Z:=h.lt.1;have K:=h.lt.2;have G:=h.alloc zL;have R:=ZI r g o cap t ts _ G;obtain ⟨w2,y⟩:∃w2,w2=((w.alloc zL).alloc (Zf t)).alloc (.cells #[.int .i64 2,.string (za t.s),.int .i64 t.n,.int .i64 t.line,.int .i64 t.at0] 142):=⟨_,rfl⟩;have J:zk r g o cap (t::ts) w2:=by rw [y];exact (G.alloc _).alloc _
 have O:zc r w w2:=by rw [y];exact (((zc.refl r w).alloc _).alloc _).alloc _
 have E:w2.heap[w.heap.size]?=some zL:=by
  rw [y,Below.heap_alloc _ _ _ (by simp;omega),Below.heap_alloc _ _ _ (by simp)]
  exact World.alloc_heap_new _ _
 have I:w2.heap[w.heap.size+1+1]?=some (.cells #[.int .i64 2,.string (za t.s),.int .i64 t.n,.int .i64 t.line,.int .i64 t.at0] 142):=by
  have N:=World.alloc_heap_new ((w.alloc zL).alloc (Zf t)) (.cells #[.int .i64 2,.string (za t.s),.int .i64 t.n,.int .i64 t.line,.int .i64 t.at0] 142);rw [←y,show ((w.alloc zL).alloc (Zf t)).heap.size=w.heap.size+1+1 by simp] at N
  exact N
 have L:w.heap.size+1+1<w2.heap.size:=(Array.getElem?_eq_some_iff.1 I).1;have D:Hid (w2=((w.alloc zL).alloc (Zf t)).alloc (.cells #[.int .i64 2,.string (za t.s),.int .i64 t.n,.int .i64 t.line,.int .i64 t.at0] 142)):=y;clear h G y;have T:=xU r g o cap t ts w2 J hne
 go_enter Tryz.func168,Tryz.ntmps168
 go_wp2_with fail
 refine R.mono ?_;clear R;rintro e w1 ⟨rfl,rfl⟩;simp only [YQ];go_wp2_with fail
 rw [←D.out];refine T.mono ?_;clear T D;rintro e w3 ⟨rfl,z⟩;have M:zc r w w3:=by rw [z];exact O.setCell 0 _
 have A:zc r w2 w3:=by rw [z];exact (zc.refl r w2).setCell 0 _
 have Q:zk r g (o+5) (cap-1) ts w3:=by rw [z];exact J.next
 have H:=(A.block _ (Array.getElem?_eq_some_iff.1 E).1 (by omega)).trans E
 have U:=(A.block _ L (by omega)).trans I
 obtain ⟨c0,c1,c2,c3,c4,-⟩:=ze U;obtain ⟨q0,q1,q2,q3,q4,qf⟩:=ze H;obtain ⟨X,z1,z2,Y,W⟩:=zj H (.int .i64 1) (.string ⟨#[]⟩) (.int .i64 t.n) (.slice none 0 0) (.int .i64 t.line)
 have V:Hid (zu r g w (.ok (.mk 1 [] t.n [] t.line,ts)) (.returned (.agg #[.int .i64 1,(.string ⟨#[]⟩),(.int .i64 t.n),.slice none 0 0,.int .i64 t.line])) (set5 w3 w.heap.size (.int .i64 1) (.string ⟨#[]⟩) (.int .i64 t.n) (.slice none 0 0) (.int .i64 t.line))) :=
  zu.of_set5 (B:=w.heap.size+1) 1 [] t.n t.line M (Nat.le_refl _) Z K (.inl ⟨rfl,rfl⟩) (Nat.lt_succ_self _) Q
 clear M A Q H U E I J O z;go_wp2
 exact bodyPost_ret (v:=.agg #[.int .i64 1,(.string ⟨#[]⟩),(.int .i64 t.n),.slice none 0 0,.int .i64 t.line]) (by simp [results,Tryz.results168,go_sem,X,z1,z2,Y,W]) rfl V.out
theorem uF (r g o cap:Nat) (t:Tk) (ts:List Tk) (w:World) (h:zk r g o cap (t::ts) w) (hk:t.k=3) (hne:ts≠[]) :
  Calls Tryz.prog 168 #[.pointer (some ⟨r,0,none⟩)] w (zu r g w (.ok (.mk 3 t.s 0 [] t.line,ts))):=by
 have Z:=h.lt.1;have K:=h.lt.2;have G:=h.alloc zL;have R:=ZI r g o cap t ts _ G;obtain ⟨w2,y⟩:∃w2,w2=((w.alloc zL).alloc (Zf t)).alloc (.cells #[.int .i64 3,.string (za t.s),.int .i64 t.n,.int .i64 t.line,.int .i64 t.at0] 142):=⟨_,rfl⟩;have J:zk r g o cap (t::ts) w2:=by rw [y];exact (G.alloc _).alloc _
 have O:zc r w w2:=by rw [y];exact (((zc.refl r w).alloc _).alloc _).alloc _
 have E:w2.heap[w.heap.size]?=some zL:=by
  rw [y,Below.heap_alloc _ _ _ (by simp;omega),Below.heap_alloc _ _ _ (by simp)]
  exact World.alloc_heap_new _ _
 have I:w2.heap[w.heap.size+1+1]?=some (.cells #[.int .i64 3,.string (za t.s),.int .i64 t.n,.int .i64 t.line,.int .i64 t.at0] 142):=by
  have N:=World.alloc_heap_new ((w.alloc zL).alloc (Zf t)) (.cells #[.int .i64 3,.string (za t.s),.int .i64 t.n,.int .i64 t.line,.int .i64 t.at0] 142);rw [←y,show ((w.alloc zL).alloc (Zf t)).heap.size=w.heap.size+1+1 by simp] at N
  exact N
 have L:w.heap.size+1+1<w2.heap.size:=(Array.getElem?_eq_some_iff.1 I).1;have D:Hid (w2=((w.alloc zL).alloc (Zf t)).alloc (.cells #[.int .i64 3,.string (za t.s),.int .i64 t.n,.int .i64 t.line,.int .i64 t.at0] 142)):=y;clear h G y;have T:=xU r g o cap t ts w2 J hne
 go_enter Tryz.func168,Tryz.ntmps168
 go_wp2_with fail
 refine R.mono ?_;clear R;rintro e w1 ⟨rfl,rfl⟩;simp only [YQ];go_wp2_with fail
 rw [←D.out];refine T.mono ?_;clear T D;rintro e w3 ⟨rfl,z⟩;have M:zc r w w3:=by rw [z];exact O.setCell 0 _
 have A:zc r w2 w3:=by rw [z];exact (zc.refl r w2).setCell 0 _
 have Q:zk r g (o+5) (cap-1) ts w3:=by rw [z];exact J.next
 have H:=(A.block _ (Array.getElem?_eq_some_iff.1 E).1 (by omega)).trans E
 have U:=(A.block _ L (by omega)).trans I
 obtain ⟨c0,c1,c2,c3,c4,-⟩:=ze U;obtain ⟨q0,q1,q2,q3,q4,qf⟩:=ze H;obtain ⟨X,z1,z2,Y,W⟩:=zj H (.int .i64 3) (.string (za t.s)) (.int .i64 0) (.slice none 0 0) (.int .i64 t.line)
 have V:Hid (zu r g w (.ok (.mk 3 t.s 0 [] t.line,ts)) (.returned (.agg #[.int .i64 3,(.string (za t.s)),(.int .i64 0),.slice none 0 0,.int .i64 t.line])) (set5 w3 w.heap.size (.int .i64 3) (.string (za t.s)) (.int .i64 0) (.slice none 0 0) (.int .i64 t.line))) :=
  zu.of_set5 (B:=w.heap.size+1) 3 t.s 0 t.line M (Nat.le_refl _) Z K (.inl ⟨rfl,rfl⟩) (Nat.lt_succ_self _) Q
 clear M A Q H U E I J O z;go_wp2
 exact bodyPost_ret (v:=.agg #[.int .i64 3,(.string (za t.s)),(.int .i64 0),.slice none 0 0,.int .i64 t.line]) (by simp [results,Tryz.results168,go_sem,X,z1,z2,Y,W]) rfl V.out
theorem VR (r g o cap:Nat) (t:Tk) (ts:List Tk) (w:World) (res:PR Ex) (h:zk r g o cap (t::ts) w) (hk:t.k=1)
  (hn:∀G,zk r g o cap (t::ts) G→zc r w G→Calls Tryz.prog 176 #[.pointer (some ⟨r,0,none⟩)] G (zu r g G res)) :
  Calls Tryz.prog 168 #[.pointer (some ⟨r,0,none⟩)] w (zu r g w res):=by
 have hr:=h.lt.1;have R:=h.lt.2;have O:=h.alloc zL;have V:=ZI r g o cap t ts _ O;obtain ⟨w2,y⟩:∃w2,w2=((w.alloc zL).alloc (Zf t)).alloc (.cells #[.int .i64 1,.string (za t.s),.int .i64 t.n,.int .i64 t.line,.int .i64 t.at0] 142):=⟨_,rfl⟩;have U:zk r g o cap (t::ts) w2:=by rw [y];exact (O.alloc _).alloc _
 have N:zc r w w2:=by rw [y];exact (((zc.refl r w).alloc _).alloc _).alloc _
 have M:w2.heap[w.heap.size]?=some zL:=by
  rw [y,Below.heap_alloc _ _ _ (by simp;omega),Below.heap_alloc _ _ _ (by simp)]
  exact World.alloc_heap_new _ _
 have T:w2.heap[w.heap.size+1+1]?=some (.cells #[.int .i64 1,.string (za t.s),.int .i64 t.n,.int .i64 t.line,.int .i64 t.at0] 142):=by
  have D:=World.alloc_heap_new ((w.alloc zL).alloc (Zf t)) (.cells #[.int .i64 1,.string (za t.s),.int .i64 t.n,.int .i64 t.line,.int .i64 t.at0] 142);rw [←y,show ((w.alloc zL).alloc (Zf t)).heap.size=w.heap.size+1+1 by simp] at D
  exact D
 have aa:w.heap.size+1+1<w2.heap.size:=(Array.getElem?_eq_some_iff.1 T).1;have E:Hid (w2=((w.alloc zL).alloc (Zf t)).alloc (.cells #[.int .i64 1,.string (za t.s),.int .i64 t.n,.int .i64 t.line,.int .i64 t.at0] 142)):=y;clear h O y;have W:=hn w2 U N;clear hn
 go_enter Tryz.func168,Tryz.ntmps168
 go_wp2_with fail
 refine V.mono ?_;clear V;rintro e G ⟨rfl,rfl⟩;simp only [YQ];go_wp2_with fail
 rw [←E.out];refine W.mono ?_;clear W E;rintro e w3 ⟨A,z⟩;have L:zc r w w3:=N.trans A;rcases res with a | ⟨x,us⟩
 ·obtain rfl:=z
  exact ⟨rfl,L,rfl⟩
 ·obtain ⟨v,o3,X,rfl,D,H⟩:=z
  obtain ⟨a,b,c,K,I,J,l,rfl⟩:=D.agg;have Q:=(A.block _ (Array.getElem?_eq_some_iff.1 M).1 (by omega)).trans M
  obtain ⟨q0,q1,q2,q3,q4,qf⟩:=ze Q;obtain ⟨z0,z1,z2,z3,Z⟩:=zj Q (.int .i64 a) (.string b) (.int .i64 c) (.slice K I J) (.int .i64 l)
  have Y:Hid (zu r g w (.ok (x,us)) (.returned (.agg #[.int .i64 a,.string b,.int .i64 c,.slice K I J,.int .i64 l])) (set5 w3 w.heap.size (.int .i64 a) (.string b) (.int .i64 c) (.slice K I J) (.int .i64 l))) :=
   zu.of_set5' L (Nat.le_refl _) hr R D (by omega) H
  clear L A Q M T U N D H;go_wp2
  exact bodyPost_ret (v:=.agg #[.int .i64 a,.string b,.int .i64 c,.slice K I J,.int .i64 l]) (by simp [results,Tryz.results168,go_sem,z0,z1,z2,z3,Z]) rfl Y.out
structure xY (r g f:Nat):Prop where
 between:∀least w o cap ts res,zh f least ts=some res→zt ts→zk r g o cap ts w→yL w→Calls Tryz.prog 98 #[.pointer (some ⟨r,0,none⟩),.int .i64 (least:Nat)] w (zu r g w res)
 unary:∀w o cap ts res,zY f ts=some res→zt ts→zk r g o cap ts w→yL w→Calls Tryz.prog 119 #[.pointer (some ⟨r,0,none⟩)] w (zu r g w res)
 single:∀w o cap ts res,zC f ts=some res→zt ts→zk r g o cap ts w→yL w→Calls Tryz.prog 168 #[.pointer (some ⟨r,0,none⟩)] w (zu r g w res)
 row:∀w o cap ts res,ZS f [] ts=some res→zt ts→zk r g o cap ts w→yL w→Calls Tryz.prog 178 #[.pointer (some ⟨r,0,none⟩),.func (.func 74) #[.pointer (some ⟨r,0,none⟩)] #[]] w (xn r g w res)
 brackets:∀w o cap ts res,zy f ts=some res→zt ts→zk r g o cap ts w→yL w→Calls Tryz.prog 177 #[.pointer (some ⟨r,0,none⟩),.func (.func 74) #[.pointer (some ⟨r,0,none⟩)] #[]] w (xn r g w res)
theorem xY.expr {r g f:Nat} (C:xY r g f) (hrl:r≠5) (w:World) (o cap:Nat) (ts:List Tk) (res:PR Ex) (hp:zh f 1 ts=some res) (hE:zt ts) (h:zk r g o cap ts w) (hl:yL w) :
  Calls Tryz.prog 74 #[.pointer (some ⟨r,0,none⟩)] w (zu r g w res):=by
 obtain ⟨t,e,rfl⟩:=hE.cons;exact zaR r g w res h.lt.1 h.lt.2 (C.between 1 _ o cap _ res hp hE (h.alloc _) (hl.kept ((zc.refl r w).alloc _) hrl))
theorem yq {α β:Type} {x:Option (PR α)} {k:α→List Tk→Option (PR β)} {r:PR β} (h:zq x k=some r):∃r1,x=some r1:=by
 cases x with
 | none=>cases h
 | some r1=>exact ⟨r1,rfl⟩
theorem xY.next {r g f:Nat} (hrl:r≠5) (C:xY r g f)
  (HB:∀o cap least ts w res,zk r g o cap ts w→zt ts→yL w→least≤6→zh (f+1) least ts=some res→Calls Tryz.prog 98 #[.pointer (some ⟨r,0,none⟩),.int .i64 (least:Nat)] w (zu r g w res))
  (HW:∀o cap ts w res,zk r g o cap ts w→zt ts→yL w→zq (zC f ts) (fun e ts=>zr f e ts)=some res→Calls Tryz.prog 147 #[.pointer (some ⟨r,0,none⟩)] w (zu r g w res)):xY r g (f+1) where
 between:=fun least w o cap ts res hp hE h hl=>by
  by_cases h6:6<least
  ·obtain ⟨t,A,rfl⟩:=hE.cons
   rw [zh,if_pos h6] at hp;exact UA r g least w res h.lt.1 h.lt.2 h6 (C.unary _ o cap _ res hp hE (h.alloc _) (hl.kept ((zc.refl r w).alloc _) hrl))
  ·exact HB o cap least ts w res h hE hl (by omega) hp
 unary:=fun w o cap ts res hp hE h hl=>by
  obtain ⟨t,A,rfl⟩:=hE.cons;rw [zY] at hp;simp only [z7,List.tail_cons] at hp
  by_cases hs:t.k=4∧(t.s=[45]∨t.s=[33])
  ·rw [if_pos hs] at hp
   obtain ⟨z,E⟩:=yq hp;have y:=hE.tail (by omega:t.k≠0)
   have N:=VO r g o cap t A w z h hE hs.1 (by simpa using hs.2) fun w1 o1 cap1 hR hK=>C.unary w1 o1 cap1 A z E y hR (hl.kept hK hrl)
   have D:XU t z=res:=by
    rw [E] at hp;rcases z with a | ⟨x,I⟩ <;> simpa [zq,XU] using hp
   rw [←D];exact N
  ·rw [if_neg hs] at hp
   exact uD r g o cap t A w res h hs fun w1 hR hK=>HW o cap _ w1 res hR hE (hl.kept hK hrl) hp
 row:=fun w o cap ts res hp hE h hl=>zbf r g o cap f ts w res h hE h.few hp fun w1 o1 cap1 ts1 z G y _ hR hK=>C.expr hrl w1 o1 cap1 ts1 z G y hR (hl.kept hK hrl)
 brackets:=fun w o cap ts res hp hE h hl=>by
  obtain ⟨t,A,rfl⟩:=hE.cons;rw [zy] at hp;simp only [Zj,z7,List.tail_cons] at hp
  by_cases hi:zm t [40]=true
  ·rw [if_pos hi] at hp
   simp only [zq] at hp;have y:=hE.tail (zo hi)
   by_cases hj:zm (zx A) [41]=true
   ·rw [if_pos hj] at hp
    have D:Z9 t A (.error 0)=res:=by unfold Z9;rw [if_pos hi,if_pos hj];simpa using hp
    rw [←D];exact xz r g o cap _ t A w (.error 0) h hE (fun _ _ h=>by cases h) fun _ hj'=>by rw [hj] at hj';cases hj'
   ·rw [if_neg hj] at hp
    change zq (ZS f [] A) _=some res at hp
    obtain ⟨z,E⟩:=yq hp
    have D:Z9 t A z=res:=by
     unfold Z9
     rw [if_pos hi,if_neg hj];rw [E] at hp;rcases z with a | ⟨l,I⟩
     ·simpa [zq] using hp
     ·simp only [zq] at hp
      by_cases hk:zm (zx I) [41]=true
      ·simpa [hk] using hp
      ·simpa [hk] using hp
    rw [←D];exact xz r g o cap _ t A w z h hE (fun l I he=>by subst he;exact (ZC f).2.2.2.2.2.1 _ _ _ _ E y) fun _ _ w1 o1 cap1 hR hK=>C.row w1 o1 cap1 A z E y hR (hl.kept hK hrl)
  ·rw [if_neg hi] at hp
   have D:Z9 t A (.error 0)=res:=by unfold Z9;rw [if_neg hi];exact Option.some.inj hp
   rw [←D];exact xz r g o cap _ t A w (.error 0) h hE (fun _ _ h=>by cases h) fun hi'=>absurd hi' hi
 single:=fun w o cap ts res hp hE h hl=>by
  obtain ⟨t,A,rfl⟩:=hE.cons;rw [zC] at hp;simp only [z7,List.tail_cons] at hp
  by_cases h2:t.k=2
  ·rw [if_pos h2] at hp
   simp only [Option.some.injEq] at hp;subst hp;exact uE r g o cap t A w h h2 (hE.tail (by omega)).ne
  ·rw [if_neg h2] at hp
   by_cases h3:t.k=3
   ·rw [if_pos h3] at hp
    simp only [Option.some.injEq] at hp;subst hp;exact uF r g o cap t A w h h3 (hE.tail (by omega)).ne
   ·rw [if_neg h3] at hp
    by_cases E:t.k=1
    ·rw [if_pos E] at hp
     have y:=hE.tail (by omega:t.k≠0)
     obtain ⟨u,I,rfl⟩:=y.cons;refine VR r g o cap t (u::I) w res h E fun w1 hR hK=>?_
     simp only [z7] at hp
     by_cases hi:zm u [40]=true
     ·rw [if_pos hi] at hp
      obtain ⟨z,G⟩:=yq hp
      have D:U2 t z=res:=by
       rw [G] at hp;rcases z with a | ⟨l,L⟩ <;> simpa [zq,U2] using hp
      rw [←D];exact Uz r g o cap t u I w1 z hR E hi fun w2 o2 cap2 hR2 hK2=>C.brackets w2 o2 cap2 _ z G y hR2 ((hl.kept hK hrl).kept hK2 hrl)
     ·rw [if_neg hi] at hp
      simp only [Option.some.injEq] at hp;subst hp;exact uB r g o cap t u I w1 hR E (by simpa using hi)
    ·rw [if_neg E] at hp
     by_cases hT:zm t [116,114,117,101]=true
     ·rw [if_pos hT] at hp
      simp only [Option.some.injEq] at hp;subst hp;exact VJ r g o cap t A w hT h hE E h2 h3
     ·rw [if_neg hT] at hp
      have H:zm t [116,114,117,101]=false:=by simpa using hT
      by_cases hF:zm t [102,97,108,115,101]=true
      ·rw [if_pos hF] at hp
       simp only [Option.some.injEq] at hp;subst hp;exact vI r g o cap t A w hF h hE E h2 h3 H
      ·rw [if_neg hF] at hp
       have J:zm t [102,97,108,115,101]=false:=by simpa using hF
       by_cases hN:zm t [110,101,119]=true
       ·rw [if_pos hN] at hp
        have y:=hE.tail (zo hN);obtain ⟨u,I,rfl⟩:=y.cons;simp only [yI,z7,List.tail_cons] at hp
        by_cases hk:u.k=1
        ·rw [if_pos hk] at hp
         change zq (zy f I) _=some res at hp
         obtain ⟨z,G⟩:=yq hp
         have D:VQ t u z=res:=by
          unfold VQ
          rw [if_pos hk];rw [G] at hp;rcases z with a | ⟨l,L⟩ <;> simpa [zq] using hp
         rw [←D];exact Xj r g o cap t u I w z hN (fun _ w2 o2 cap2 hR2 hK2=>C.brackets w2 o2 cap2 _ z G (y.tail (by omega)) hR2 (hl.kept hK2 hrl)) h hE E h2 h3 H J
        ·rw [if_neg hk] at hp
         have D:VQ t u (.error 0)=res:=by unfold VQ;rw [if_neg hk];simpa [zq] using hp
         rw [←D];exact Xj r g o cap t u I w (.error 0) hN (fun hk'=>absurd hk' hk) h hE E h2 h3 H J
       ·rw [if_neg hN] at hp
        have K:zm t [110,101,119]=false:=by simpa using hN
        by_cases hA:zm t [91]=true
        ·rw [if_pos hA] at hp
         have y:=hE.tail (zo hA);obtain ⟨z,G⟩:=yq hp
         have D:xB t z=res:=by
          unfold xB
          rw [G] at hp;rcases z with a | ⟨l,L⟩
          ·simpa [zq] using hp
          ·simp only [zq,Zj] at hp
           by_cases hk:zm (zx L) [93]=true
           ·simpa [hk] using hp
           ·simpa [hk] using hp
         rw [←D];exact vK r g o cap t A w z hA (fun l L he=>by subst he;exact (ZC f).2.2.2.2.2.1 _ _ _ _ G y) (fun w2 o2 cap2 hR2 hK2=>C.row w2 o2 cap2 _ z G y hR2 (hl.kept hK2 hrl)) h hE E h2 h3 H J K
        ·rw [if_neg hA] at hp
         have M:zm t [91]=false:=by simpa using hA
         simp only [Zj,z7,List.tail_cons] at hp
         by_cases hP:zm t [40]=true
         ·rw [if_pos hP] at hp
          change zq (zh f 1 A) _=some res at hp
          have y:=hE.tail (zo hP);obtain ⟨z,G⟩:=yq hp
          have D:Yj t z=res:=by
           unfold Yj
           rw [if_pos hP];rw [G] at hp;rcases z with a | ⟨l,L⟩
           ·simpa [zq] using hp
           ·simp only [zq] at hp
            by_cases hk:zm (zx L) [41]=true
            ·simpa [hk] using hp
            ·simpa [hk] using hp
          rw [←D];exact xm r g o cap t A w z (fun l L he=>by subst he;exact (ZC f).1 _ _ _ _ G y) (fun _ w2 o2 cap2 hR2 hK2=>C.expr hrl w2 o2 cap2 _ z G y hR2 (hl.kept hK2 hrl)) h hE E h2 h3 H J K M
         ·rw [if_neg hP] at hp
          have D:Yj t (.error 0)=res:=by unfold Yj;rw [if_neg hP];simpa [zq] using hp
          rw [←D];exact xm r g o cap t A w (.error 0) (fun _ _ h=>by cases h) (fun hP'=>absurd hP' hP) h hE E h2 h3 H J K M
theorem zaT (r g:Nat) (hrl:r≠5):∀f,xY r g f:=by
 intro f
 induction f with
 | zero=>exact ⟨fun _ _ _ _ _ _ h=>by simp [zh] at h,fun _ _ _ _ _ h=>by simp [zY] at h,fun _ _ _ _ _ h=>by simp [zC] at h,fun _ _ _ _ _ h=>by simp [ZS] at h,fun _ _ _ _ _ h=>by simp [zy] at h⟩
 | succ f C =>
  refine C.next hrl (fun o cap least ts w res h hE hl h6 hp=>?_) (fun o cap ts w res h hE hl hp=>?_)
  ·refine qN r g o cap f least ts w res h hE h.few hl hrl h6 hp fun w1 o1 cap1 ts1 r1 hb hE1 _ hR hK=>?_
   have:=C.between (least+1) w1 o1 cap1 ts1 r1 hb hE1 hR (hl.kept hK hrl)
   simpa using this
  ·exact zaq r g o cap f ts w res h hE hp (fun w1 o1 cap1 ts1 r1 hb hE1 hR hK=>C.single w1 o1 cap1 ts1 r1 hb hE1 hR (hl.kept hK hrl)) fun w1 o1 cap1 ts1 r1 hb hE1 hR hK=>C.expr hrl w1 o1 cap1 ts1 r1 hb hE1 hR (hl.kept hK hrl)
end Go.Proofs.YtmbofhpmockmbaaGreatDoor
