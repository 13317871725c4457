import Derived.Test.YtmbofhpmockmbaaGreatDoorMC15
import Derived.Test.YtmbofhpmockmbaaGreatDoorSSingle2
import Derived.Test.YtmbofhpmockmbaaGreatDoorMC18
import Derived.Test.YtmbofhpmockmbaaGreatDoorMC19
import Derived.Test.YtmbofhpmockmbaaGreatDoorSParts
namespace Go.Proofs.YtmbofhpmockmbaaGreatDoor
open Go.RowKit Go.Shelf
set_option maxHeartbeats 16000000
set_option maxRecDepth 100000
theorem ue (r g o cap:Nat) (t:Tk) (ts:List Tk) (w:World) (h:zj r g o cap (t::ts) w) (hk:t.k=2) (hne:ts≠[]) :
  Calls Tryz.prog 168 #[.pointer (some ⟨r,0,none⟩)] w (zr r g w (.ok (.mk 1 [] t.n [] t.line,ts))):=by
 have hr:=h.lt.1;have I:=h.lt.2;have H:=h.alloc zJ;have Q:=ZD r g o cap t ts _ H;obtain ⟨w2,y⟩:∃w2,w2=((w.alloc zJ).alloc (Zc t)).alloc (.cells #[.int .i64 2,.string (za t.s),.int .i64 t.n,.int .i64 t.line,.int .i64 t.at0] 142):=⟨_,rfl⟩;have J:zj r g o cap (t::ts) w2:=by rw [y];exact (H.alloc _).alloc _
 have M:zb r w w2:=by rw [y];exact (((zb.refl r w).alloc _).alloc _).alloc _
 have L:w2.heap[w.heap.size]?=some zJ:=by
  rw [y,Below.heap_alloc _ _ _ (by simp;omega),Below.heap_alloc _ _ _ (by simp)]
  exact World.alloc_heap_new _ _
 have E:w2.heap[w.heap.size+1+1]?=some (.cells #[.int .i64 2,.string (za t.s),.int .i64 t.n,.int .i64 t.line,.int .i64 t.at0] 142):=by
  have O:=World.alloc_heap_new ((w.alloc zJ).alloc (Zc t)) (.cells #[.int .i64 2,.string (za t.s),.int .i64 t.n,.int .i64 t.line,.int .i64 t.at0] 142);rw [←y,show ((w.alloc zJ).alloc (Zc t)).heap.size=w.heap.size+1+1 by simp] at O
  exact O
 have G:w.heap.size+1+1<w2.heap.size:=(Array.getElem?_eq_some_iff.1 E).1;have D:Hid (w2=((w.alloc zJ).alloc (Zc t)).alloc (.cells #[.int .i64 2,.string (za t.s),.int .i64 t.n,.int .i64 t.line,.int .i64 t.at0] 142)):=y;clear h H y;have R:=xK r g o cap t ts w2 J hne
 go_enter Tryz.func168,Tryz.ntmps168
 go_wp2_with fail
 refine Q.mono ?_;clear Q;rintro e w1 ⟨rfl,rfl⟩;simp only [YH];go_wp2_with fail
 rw [←D.out];refine R.mono ?_;clear R D;rintro e w3 ⟨rfl,z⟩;have U:zb r w w3:=by rw [z];exact M.setCell 0 _
 have A:zb r w2 w3:=by rw [z];exact (zb.refl r w2).setCell 0 _
 have T:zj r g (o+5) (cap-1) ts w3:=by rw [z];exact J.next
 have K:=(A.block _ (Array.getElem?_eq_some_iff.1 L).1 (by omega)).trans L
 have N:=(A.block _ G (by omega)).trans E
 obtain ⟨c0,c1,c2,c3,c4,-⟩:=zd N;obtain ⟨q0,q1,q2,q3,q4,qf⟩:=zd K;obtain ⟨Z,W,z2,X,V⟩:=zi K (.int .i64 1) (.string ⟨#[]⟩) (.int .i64 t.n) (.slice none 0 0) (.int .i64 t.line)
 have Y:Hid (zr r g w (.ok (.mk 1 [] t.n [] t.line,ts)) (.returned (.agg #[.int .i64 1,(.string ⟨#[]⟩),(.int .i64 t.n),.slice none 0 0,.int .i64 t.line])) (set5 w3 w.heap.size (.int .i64 1) (.string ⟨#[]⟩) (.int .i64 t.n) (.slice none 0 0) (.int .i64 t.line))) :=
  zr.of_set5 (B:=w.heap.size+1) 1 [] t.n t.line U (Nat.le_refl _) hr I (.inl ⟨rfl,rfl⟩) (Nat.lt_succ_self _) T
 clear U A T K N L E J M z;go_wp2
 exact bodyPost_ret (v:=.agg #[.int .i64 1,(.string ⟨#[]⟩),(.int .i64 t.n),.slice none 0 0,.int .i64 t.line]) (by simp [results,Tryz.results168,go_sem,Z,W,z2,X,V]) rfl Y.out
theorem uf (r g o cap:Nat) (t:Tk) (ts:List Tk) (w:World) (h:zj r g o cap (t::ts) w) (hk:t.k=3) (hne:ts≠[]) :
  Calls Tryz.prog 168 #[.pointer (some ⟨r,0,none⟩)] w (zr r g w (.ok (.mk 3 t.s 0 [] t.line,ts))):=by
 have hr:=h.lt.1;have I:=h.lt.2;have H:=h.alloc zJ;have Q:=ZD r g o cap t ts _ H;obtain ⟨w2,y⟩:∃w2,w2=((w.alloc zJ).alloc (Zc t)).alloc (.cells #[.int .i64 3,.string (za t.s),.int .i64 t.n,.int .i64 t.line,.int .i64 t.at0] 142):=⟨_,rfl⟩;have J:zj r g o cap (t::ts) w2:=by rw [y];exact (H.alloc _).alloc _
 have M:zb r w w2:=by rw [y];exact (((zb.refl r w).alloc _).alloc _).alloc _
 have L:w2.heap[w.heap.size]?=some zJ:=by
  rw [y,Below.heap_alloc _ _ _ (by simp;omega),Below.heap_alloc _ _ _ (by simp)]
  exact World.alloc_heap_new _ _
 have E:w2.heap[w.heap.size+1+1]?=some (.cells #[.int .i64 3,.string (za t.s),.int .i64 t.n,.int .i64 t.line,.int .i64 t.at0] 142):=by
  have O:=World.alloc_heap_new ((w.alloc zJ).alloc (Zc t)) (.cells #[.int .i64 3,.string (za t.s),.int .i64 t.n,.int .i64 t.line,.int .i64 t.at0] 142);rw [←y,show ((w.alloc zJ).alloc (Zc t)).heap.size=w.heap.size+1+1 by simp] at O
  exact O
 have G:w.heap.size+1+1<w2.heap.size:=(Array.getElem?_eq_some_iff.1 E).1;have D:Hid (w2=((w.alloc zJ).alloc (Zc t)).alloc (.cells #[.int .i64 3,.string (za t.s),.int .i64 t.n,.int .i64 t.line,.int .i64 t.at0] 142)):=y;clear h H y;have R:=xK r g o cap t ts w2 J hne
 go_enter Tryz.func168,Tryz.ntmps168
 go_wp2_with fail
 refine Q.mono ?_;clear Q;rintro e w1 ⟨rfl,rfl⟩;simp only [YH];go_wp2_with fail
 rw [←D.out];refine R.mono ?_;clear R D;rintro e w3 ⟨rfl,z⟩;have U:zb r w w3:=by rw [z];exact M.setCell 0 _
 have A:zb r w2 w3:=by rw [z];exact (zb.refl r w2).setCell 0 _
 have T:zj r g (o+5) (cap-1) ts w3:=by rw [z];exact J.next
 have K:=(A.block _ (Array.getElem?_eq_some_iff.1 L).1 (by omega)).trans L
 have N:=(A.block _ G (by omega)).trans E
 obtain ⟨c0,c1,c2,c3,c4,-⟩:=zd N;obtain ⟨q0,q1,q2,q3,q4,qf⟩:=zd K;obtain ⟨Z,W,z2,X,V⟩:=zi K (.int .i64 3) (.string (za t.s)) (.int .i64 0) (.slice none 0 0) (.int .i64 t.line)
 have Y:Hid (zr r g w (.ok (.mk 3 t.s 0 [] t.line,ts)) (.returned (.agg #[.int .i64 3,(.string (za t.s)),(.int .i64 0),.slice none 0 0,.int .i64 t.line])) (set5 w3 w.heap.size (.int .i64 3) (.string (za t.s)) (.int .i64 0) (.slice none 0 0) (.int .i64 t.line))) :=
  zr.of_set5 (B:=w.heap.size+1) 3 t.s 0 t.line U (Nat.le_refl _) hr I (.inl ⟨rfl,rfl⟩) (Nat.lt_succ_self _) T
 clear U A T K N L E J M z;go_wp2
 exact bodyPost_ret (v:=.agg #[.int .i64 3,(.string (za t.s)),(.int .i64 0),.slice none 0 0,.int .i64 t.line]) (by simp [results,Tryz.results168,go_sem,Z,W,z2,X,V]) rfl Y.out
theorem Vw (r g o cap:Nat) (t:Tk) (ts:List Tk) (w:World) (res:PR Ex) (h:zj r g o cap (t::ts) w) (hk:t.k=1)
  (hn:∀G,zj r g o cap (t::ts) G→zb r w G→Calls Tryz.prog 176 #[.pointer (some ⟨r,0,none⟩)] G (zr r g G res)) :
  Calls Tryz.prog 168 #[.pointer (some ⟨r,0,none⟩)] w (zr r g w res):=by
 have hr:=h.lt.1;have N:=h.lt.2;have M:=h.alloc zJ;have V:=ZD r g o cap t ts _ M;obtain ⟨w2,y⟩:∃w2,w2=((w.alloc zJ).alloc (Zc t)).alloc (.cells #[.int .i64 1,.string (za t.s),.int .i64 t.n,.int .i64 t.line,.int .i64 t.at0] 142):=⟨_,rfl⟩;have W:zj r g o cap (t::ts) w2:=by rw [y];exact (M.alloc _).alloc _
 have L:zb r w w2:=by rw [y];exact (((zb.refl r w).alloc _).alloc _).alloc _
 have Q:w2.heap[w.heap.size]?=some zJ:=by
  rw [y,Below.heap_alloc _ _ _ (by simp;omega),Below.heap_alloc _ _ _ (by simp)]
  exact World.alloc_heap_new _ _
 have U:w2.heap[w.heap.size+1+1]?=some (.cells #[.int .i64 1,.string (za t.s),.int .i64 t.n,.int .i64 t.line,.int .i64 t.at0] 142):=by
  have D:=World.alloc_heap_new ((w.alloc zJ).alloc (Zc t)) (.cells #[.int .i64 1,.string (za t.s),.int .i64 t.n,.int .i64 t.line,.int .i64 t.at0] 142);rw [←y,show ((w.alloc zJ).alloc (Zc t)).heap.size=w.heap.size+1+1 by simp] at D
  exact D
 have aa:w.heap.size+1+1<w2.heap.size:=(Array.getElem?_eq_some_iff.1 U).1;have H:Hid (w2=((w.alloc zJ).alloc (Zc t)).alloc (.cells #[.int .i64 1,.string (za t.s),.int .i64 t.n,.int .i64 t.line,.int .i64 t.at0] 142)):=y;clear h M y;have X:=hn w2 W L;clear hn
 go_enter Tryz.func168,Tryz.ntmps168
 go_wp2_with fail
 refine V.mono ?_;clear V;rintro e G ⟨rfl,rfl⟩;simp only [YH];go_wp2_with fail
 rw [←H.out];refine X.mono ?_;clear X H;rintro e w3 ⟨A,z⟩;have R:zb r w w3:=L.trans A;rcases res with a | ⟨x,us⟩
 ·obtain rfl:=z
  exact ⟨rfl,R,rfl⟩
 ·obtain ⟨v,o3,T,rfl,D,E⟩:=z
  obtain ⟨a,b,c,J,I,K,l,rfl⟩:=D.agg;have O:=(A.block _ (Array.getElem?_eq_some_iff.1 Q).1 (by omega)).trans Q
  obtain ⟨q0,q1,q2,q3,q4,qf⟩:=zd O;obtain ⟨z0,Z,z2,z3,Y⟩:=zi O (.int .i64 a) (.string b) (.int .i64 c) (.slice J I K) (.int .i64 l)
  have HP:Hid (zr r g w (.ok (x,us)) (.returned (.agg #[.int .i64 a,.string b,.int .i64 c,.slice J I K,.int .i64 l])) (set5 w3 w.heap.size (.int .i64 a) (.string b) (.int .i64 c) (.slice J I K) (.int .i64 l))) :=
   zr.of_set5' R (Nat.le_refl _) hr N D (by omega) E
  clear R A O Q U W L D E;go_wp2
  exact bodyPost_ret (v:=.agg #[.int .i64 a,.string b,.int .i64 c,.slice J I K,.int .i64 l]) (by simp [results,Tryz.results168,go_sem,z0,Z,z2,z3,Y]) rfl HP.out
structure xO (r g f:Nat):Prop where
 between:∀least w o cap ts res,zg f least ts=some res→zq ts→zj r g o cap ts w→yF w→Calls Tryz.prog 98 #[.pointer (some ⟨r,0,none⟩),.int .i64 (least:Nat)] w (zr r g w res)
 unary:∀w o cap ts res,zW f ts=some res→zq ts→zj r g o cap ts w→yF w→Calls Tryz.prog 119 #[.pointer (some ⟨r,0,none⟩)] w (zr r g w res)
 single:∀w o cap ts res,zA f ts=some res→zq ts→zj r g o cap ts w→yF w→Calls Tryz.prog 168 #[.pointer (some ⟨r,0,none⟩)] w (zr r g w res)
 row:∀w o cap ts res,ZO f [] ts=some res→zq ts→zj r g o cap ts w→yF w→Calls Tryz.prog 178 #[.pointer (some ⟨r,0,none⟩),.func (.func 74) #[.pointer (some ⟨r,0,none⟩)] #[]] w (Y7 r g w res)
 brackets:∀w o cap ts res,zw f ts=some res→zq ts→zj r g o cap ts w→yF w→Calls Tryz.prog 177 #[.pointer (some ⟨r,0,none⟩),.func (.func 74) #[.pointer (some ⟨r,0,none⟩)] #[]] w (Y7 r g w res)
theorem xO.expr {r g f:Nat} (C:xO r g f) (hrl:r≠5) (w:World) (o cap:Nat) (ts:List Tk) (res:PR Ex) (hp:zg f 1 ts=some res) (hE:zq ts) (h:zj r g o cap ts w) (hl:yF w) :
  Calls Tryz.prog 74 #[.pointer (some ⟨r,0,none⟩)] w (zr r g w res):=by
 obtain ⟨t,e,rfl⟩:=hE.cons;exact zau r g w res h.lt.1 h.lt.2 (C.between 1 _ o cap _ res hp hE (h.alloc _) (hl.kept ((zb.refl r w).alloc _) hrl))
theorem yn {α β:Type} {x:Option (PR α)} {k:α→List Tk→Option (PR β)} {r:PR β} (h:zo x k=some r):∃r1,x=some r1:=by
 cases x with
 | none=>cases h
 | some r1=>exact ⟨r1,rfl⟩
theorem xO.next {r g f:Nat} (hrl:r≠5) (C:xO r g f)
  (HB:∀o cap least ts w res,zj r g o cap ts w→zq ts→yF w→least≤6→zg (f+1) least ts=some res→Calls Tryz.prog 98 #[.pointer (some ⟨r,0,none⟩),.int .i64 (least:Nat)] w (zr r g w res))
  (HW:∀o cap ts w res,zj r g o cap ts w→zq ts→yF w→zo (zA f ts) (fun e ts=>zp f e ts)=some res→Calls Tryz.prog 147 #[.pointer (some ⟨r,0,none⟩)] w (zr r g w res)):xO r g (f+1) where
 between:=fun least w o cap ts res hp hE h hl=>by
  by_cases h6:6<least
  ·obtain ⟨t,A,rfl⟩:=hE.cons
   rw [zg,if_pos h6] at hp;exact Ud r g least w res h.lt.1 h.lt.2 h6 (C.unary _ o cap _ res hp hE (h.alloc _) (hl.kept ((zb.refl r w).alloc _) hrl))
  ·exact HB o cap least ts w res h hE hl (by omega) hp
 unary:=fun w o cap ts res hp hE h hl=>by
  obtain ⟨t,A,rfl⟩:=hE.cons;rw [zW] at hp;simp only [zX,List.tail_cons] at hp
  by_cases hs:t.k=4∧(t.s=[45]∨t.s=[33])
  ·rw [if_pos hs] at hp
   obtain ⟨z,E⟩:=yn hp;have y:=hE.tail (by omega:t.k≠0)
   have N:=Vt r g o cap t A w z h hE hs.1 (by simpa using hs.2) fun w1 o1 cap1 hR hK=>C.unary w1 o1 cap1 A z E y hR (hl.kept hK hrl)
   have D:XG t z=res:=by
    rw [E] at hp;rcases z with a | ⟨x,J⟩ <;> simpa [zo,XG] using hp
   rw [←D];exact N
  ·rw [if_neg hs] at hp
   exact ud r g o cap t A w res h hs fun w1 hR hK=>HW o cap _ w1 res hR hE (hl.kept hK hrl) hp
 row:=fun w o cap ts res hp hE h hl=>zaS r g o cap f ts w res h hE h.few hp fun w1 o1 cap1 ts1 z G y _ hR hK=>C.expr hrl w1 o1 cap1 ts1 z G y hR (hl.kept hK hrl)
 brackets:=fun w o cap ts res hp hE h hl=>by
  obtain ⟨t,A,rfl⟩:=hE.cons;rw [zw] at hp;simp only [Zg,zX,List.tail_cons] at hp
  by_cases hi:zk t [40]=true
  ·rw [if_pos hi] at hp
   simp only [zo] at hp;have y:=hE.tail (zm hi)
   by_cases hj:zk (zu A) [41]=true
   ·rw [if_pos hj] at hp
    have D:Z6 t A (.error 0)=res:=by unfold Z6;rw [if_pos hi,if_pos hj];simpa using hp
    rw [←D];exact xm r g o cap _ t A w (.error 0) h hE (fun _ _ h=>by cases h) fun _ hj'=>by rw [hj] at hj';cases hj'
   ·rw [if_neg hj] at hp
    change zo (ZO f [] A) _=some res at hp
    obtain ⟨z,E⟩:=yn hp
    have D:Z6 t A z=res:=by
     unfold Z6
     rw [if_pos hi,if_neg hj];rw [E] at hp;rcases z with a | ⟨l,J⟩
     ·simpa [zo] using hp
     ·simp only [zo] at hp
      by_cases hk:zk (zu J) [41]=true
      ·simpa [hk] using hp
      ·simpa [hk] using hp
    rw [←D];exact xm r g o cap _ t A w z h hE (fun l J he=>by subst he;exact (Zw f).2.2.2.2.2.1 _ _ _ _ E y) fun _ _ w1 o1 cap1 hR hK=>C.row w1 o1 cap1 A z E y hR (hl.kept hK hrl)
  ·rw [if_neg hi] at hp
   have D:Z6 t A (.error 0)=res:=by unfold Z6;rw [if_neg hi];exact Option.some.inj hp
   rw [←D];exact xm r g o cap _ t A w (.error 0) h hE (fun _ _ h=>by cases h) fun hi'=>absurd hi' hi
 single:=fun w o cap ts res hp hE h hl=>by
  obtain ⟨t,A,rfl⟩:=hE.cons;rw [zA] at hp;simp only [zX,List.tail_cons] at hp
  by_cases h2:t.k=2
  ·rw [if_pos h2] at hp
   simp only [Option.some.injEq] at hp;subst hp;exact ue r g o cap t A w h h2 (hE.tail (by omega)).ne
  ·rw [if_neg h2] at hp
   by_cases h3:t.k=3
   ·rw [if_pos h3] at hp
    simp only [Option.some.injEq] at hp;subst hp;exact uf r g o cap t A w h h3 (hE.tail (by omega)).ne
   ·rw [if_neg h3] at hp
    by_cases E:t.k=1
    ·rw [if_pos E] at hp
     have y:=hE.tail (by omega:t.k≠0)
     obtain ⟨u,J,rfl⟩:=y.cons;refine Vw r g o cap t (u::J) w res h E fun w1 hR hK=>?_
     simp only [zX] at hp
     by_cases hi:zk u [40]=true
     ·rw [if_pos hi] at hp
      obtain ⟨z,G⟩:=yn hp
      have D:UK t z=res:=by
       rw [G] at hp;rcases z with a | ⟨l,L⟩ <;> simpa [zo,UK] using hp
      rw [←D];exact Uc r g o cap t u J w1 z hR E hi fun w2 o2 cap2 hR2 hK2=>C.brackets w2 o2 cap2 _ z G y hR2 ((hl.kept hK hrl).kept hK2 hrl)
     ·rw [if_neg hi] at hp
      simp only [Option.some.injEq] at hp;subst hp;exact ua r g o cap t u J w1 hR E (by simpa using hi)
    ·rw [if_neg E] at hp
     by_cases hT:zk t [116,114,117,101]=true
     ·rw [if_pos hT] at hp
      simp only [Option.some.injEq] at hp;subst hp;exact Vo r g o cap t A w hT h hE E h2 h3
     ·rw [if_neg hT] at hp
      have H:zk t [116,114,117,101]=false:=by simpa using hT
      by_cases hF:zk t [102,97,108,115,101]=true
      ·rw [if_pos hF] at hp
       simp only [Option.some.injEq] at hp;subst hp;exact vq r g o cap t A w hF h hE E h2 h3 H
      ·rw [if_neg hF] at hp
       have I:zk t [102,97,108,115,101]=false:=by simpa using hF
       by_cases hN:zk t [110,101,119]=true
       ·rw [if_pos hN] at hp
        have y:=hE.tail (zm hN);obtain ⟨u,J,rfl⟩:=y.cons;simp only [yD,zX,List.tail_cons] at hp
        by_cases hk:u.k=1
        ·rw [if_pos hk] at hp
         change zo (zw f J) _=some res at hp
         obtain ⟨z,G⟩:=yn hp
         have D:Vv t u z=res:=by
          unfold Vv
          rw [if_pos hk];rw [G] at hp;rcases z with a | ⟨l,L⟩ <;> simpa [zo] using hp
         rw [←D];exact x9 r g o cap t u J w z hN (fun _ w2 o2 cap2 hR2 hK2=>C.brackets w2 o2 cap2 _ z G (y.tail (by omega)) hR2 (hl.kept hK2 hrl)) h hE E h2 h3 H I
        ·rw [if_neg hk] at hp
         have D:Vv t u (.error 0)=res:=by unfold Vv;rw [if_neg hk];simpa [zo] using hp
         rw [←D];exact x9 r g o cap t u J w (.error 0) hN (fun hk'=>absurd hk' hk) h hE E h2 h3 H I
       ·rw [if_neg hN] at hp
        have K:zk t [110,101,119]=false:=by simpa using hN
        by_cases hA:zk t [91]=true
        ·rw [if_pos hA] at hp
         have y:=hE.tail (zm hA);obtain ⟨z,G⟩:=yn hp
         have D:xo t z=res:=by
          unfold xo
          rw [G] at hp;rcases z with a | ⟨l,L⟩
          ·simpa [zo] using hp
          ·simp only [zo,Zg] at hp
           by_cases hk:zk (zu L) [93]=true
           ·simpa [hk] using hp
           ·simpa [hk] using hp
         rw [←D];exact vu r g o cap t A w z hA (fun l L he=>by subst he;exact (Zw f).2.2.2.2.2.1 _ _ _ _ G y) (fun w2 o2 cap2 hR2 hK2=>C.row w2 o2 cap2 _ z G y hR2 (hl.kept hK2 hrl)) h hE E h2 h3 H I K
        ·rw [if_neg hA] at hp
         have M:zk t [91]=false:=by simpa using hA
         simp only [Zg,zX,List.tail_cons] at hp
         by_cases hP:zk t [40]=true
         ·rw [if_pos hP] at hp
          change zo (zg f 1 A) _=some res at hp
          have y:=hE.tail (zm hP);obtain ⟨z,G⟩:=yn hp
          have D:Yb t z=res:=by
           unfold Yb
           rw [if_pos hP];rw [G] at hp;rcases z with a | ⟨l,L⟩
           ·simpa [zo] using hp
           ·simp only [zo] at hp
            by_cases hk:zk (zu L) [41]=true
            ·simpa [hk] using hp
            ·simpa [hk] using hp
          rw [←D];exact Y6 r g o cap t A w z (fun l L he=>by subst he;exact (Zw f).1 _ _ _ _ G y) (fun _ w2 o2 cap2 hR2 hK2=>C.expr hrl w2 o2 cap2 _ z G y hR2 (hl.kept hK2 hrl)) h hE E h2 h3 H I K M
         ·rw [if_neg hP] at hp
          have D:Yb t (.error 0)=res:=by unfold Yb;rw [if_neg hP];simpa [zo] using hp
          rw [←D];exact Y6 r g o cap t A w (.error 0) (fun _ _ h=>by cases h) (fun hP'=>absurd hP' hP) h hE E h2 h3 H I K M
theorem zaw (r g:Nat) (hrl:r≠5):∀f,xO r g f:=by
 intro f
 induction f with
 | zero=>exact ⟨fun _ _ _ _ _ _ h=>by simp [zg] at h,fun _ _ _ _ _ h=>by simp [zW] at h,fun _ _ _ _ _ h=>by simp [zA] at h,fun _ _ _ _ _ h=>by simp [ZO] at h,fun _ _ _ _ _ h=>by simp [zw] at h⟩
 | succ f C =>
  refine C.next hrl (fun o cap least ts w res h hE hl h6 hp=>?_) (fun o cap ts w res h hE hl hp=>?_)
  ·refine qp r g o cap f least ts w res h hE h.few hl hrl h6 hp fun w1 o1 cap1 ts1 r1 hb hE1 _ hR hK=>?_
   have:=C.between (least+1) w1 o1 cap1 ts1 r1 hb hE1 hR (hl.kept hK hrl)
   simpa using this
  ·exact Q0 r g o cap f ts w res h hE hp (fun w1 o1 cap1 ts1 r1 hb hE1 hR hK=>C.single w1 o1 cap1 ts1 r1 hb hE1 hR (hl.kept hK hrl)) fun w1 o1 cap1 ts1 r1 hb hE1 hR hK=>C.expr hrl w1 o1 cap1 ts1 r1 hb hE1 hR (hl.kept hK hrl)
end Go.Proofs.YtmbofhpmockmbaaGreatDoor
