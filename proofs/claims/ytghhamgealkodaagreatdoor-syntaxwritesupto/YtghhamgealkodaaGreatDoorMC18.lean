import Derived.Test.YtghhamgealkodaaGreatDoorMC17
import Derived.Test.YtghhamgealkodaaGreatDoorSSingle2
import Derived.Test.YtghhamgealkodaaGreatDoorMC20
import Derived.Test.YtghhamgealkodaaGreatDoorMC21
import Derived.Deep.RegionWith
import Derived.Deep.DeepCutAuto
import Derived.Deep.CutRange
import Derived.Test.YtghhamgealkodaaGreatDoorSStatement
namespace Go.Proofs.YtghhamgealkodaaGreatDoor
open Go.RowKit Go.Shelf
set_option maxRecDepth 100000
set_option maxHeartbeats 4000000 in
theorem rdSingleInt (r g o cap:Nat) (t:Tk) (ts:List Tk) (w:World) (h:RdAt r g o cap (t::ts) w) (hk:t.k=2) (hne:ts≠[]) :
  Calls Tryz.prog 177 #[.pointer (some ⟨r,0,none⟩)] w (PostE r g w (.ok (.mk 1 [] t.n [] t.line,ts))):=by
 have hr:=h.lt.1
 have hgw:=h.lt.2
 have h0:=h.alloc exZ
 have ch:=rdHere r g o cap t ts _ h0
 obtain ⟨w2,hw2⟩:∃w2,w2=((w.alloc exZ).alloc (tkO t)).alloc (.cells #[.int .i64 2,.string (strB t.s),.int .i64 t.n,.int .i64 t.line,.int .i64 t.at0] 72):=⟨_,rfl⟩
 have h2:RdAt r g o cap (t::ts) w2:=by rw [hw2];exact (h0.alloc _).alloc _
 have k2:Kept r w w2:=by rw [hw2];exact (((Kept.refl r w).alloc _).alloc _).alloc _
 have n0:w2.heap[w.heap.size]?=some exZ:=by
  rw [hw2,Below.heap_alloc _ _ _ (by simp;omega),Below.heap_alloc _ _ _ (by simp)]
  exact World.alloc_heap_new _ _
 have n2:w2.heap[w.heap.size+1+1]?=some (.cells #[.int .i64 2,.string (strB t.s),.int .i64 t.n,.int .i64 t.line,.int .i64 t.at0] 72):=by
  have hx:=World.alloc_heap_new ((w.alloc exZ).alloc (tkO t)) (.cells #[.int .i64 2,.string (strB t.s),.int .i64 t.n,.int .i64 t.line,.int .i64 t.at0] 72)
  rw [←hw2,show ((w.alloc exZ).alloc (tkO t)).heap.size=w.heap.size+1+1 by simp] at hx
  exact hx
 have hl2:w.heap.size+1+1<w2.heap.size:=(Array.getElem?_eq_some_iff.1 n2).1
 have HW2:Hid (w2=((w.alloc exZ).alloc (tkO t)).alloc (.cells #[.int .i64 2,.string (strB t.s),.int .i64 t.n,.int .i64 t.line,.int .i64 t.at0] 72)):=hw2
 clear h h0 hw2
 have cs:=rdStep r g o cap t ts w2 h2 hne
 go_enter Tryz.func177,Tryz.ntmps177
 go_wp2_with fail
 refine ch.mono ?_
 clear ch
 rintro e w1 ⟨rfl,rfl⟩
 simp only [tkV]
 go_wp2_with fail
 rw [←HW2.out]
 refine cs.mono ?_
 clear cs HW2
 rintro e w3 ⟨rfl,hw3⟩
 have k3:Kept r w w3:=by rw [hw3];exact k2.setCell 0 _
 have k23:Kept r w2 w3:=by rw [hw3];exact (Kept.refl r w2).setCell 0 _
 have h3:RdAt r g (o+5) (cap-1) ts w3:=by rw [hw3];exact h2.next
 have p0:=(k23.block _ (Array.getElem?_eq_some_iff.1 n0).1 (by omega)).trans n0
 have p2:=(k23.block _ hl2 (by omega)).trans n2
 obtain ⟨c0,c1,c2,c3,c4,-⟩:=cells5 p2
 obtain ⟨q0,q1,q2,q3,q4,qf⟩:=cells5 p0
 obtain ⟨z0,z1,z2,z3,z4⟩:=set5_cells p0 (.int .i64 1) (.string ⟨#[]⟩) (.int .i64 t.n) (.slice none 0 0) (.int .i64 t.line)
 have HP:Hid (PostE r g w (.ok (.mk 1 [] t.n [] t.line,ts)) (.returned (.agg #[.int .i64 1,(.string ⟨#[]⟩),(.int .i64 t.n),.slice none 0 0,.int .i64 t.line])) (set5 w3 w.heap.size (.int .i64 1) (.string ⟨#[]⟩) (.int .i64 t.n) (.slice none 0 0) (.int .i64 t.line))) :=
  PostE.of_set5 (B:=w.heap.size+1) 1 [] t.n t.line k3 (Nat.le_refl _) hr hgw (.inl ⟨rfl,rfl⟩) (Nat.lt_succ_self _) h3
 clear k3 k23 h3 p0 p2 n0 n2 h2 k2 hw3
 go_wp2
 exact bodyPost_ret (v:=.agg #[.int .i64 1,(.string ⟨#[]⟩),(.int .i64 t.n),.slice none 0 0,.int .i64 t.line]) (by simp [results,Tryz.results177,go_sem,z0,z1,z2,z3,z4]) rfl HP.out
set_option maxHeartbeats 4000000 in
theorem rdSingleStr (r g o cap:Nat) (t:Tk) (ts:List Tk) (w:World) (h:RdAt r g o cap (t::ts) w) (hk:t.k=3) (hne:ts≠[]) :
  Calls Tryz.prog 177 #[.pointer (some ⟨r,0,none⟩)] w (PostE r g w (.ok (.mk 3 t.s 0 [] t.line,ts))):=by
 have hr:=h.lt.1
 have hgw:=h.lt.2
 have h0:=h.alloc exZ
 have ch:=rdHere r g o cap t ts _ h0
 obtain ⟨w2,hw2⟩:∃w2,w2=((w.alloc exZ).alloc (tkO t)).alloc (.cells #[.int .i64 3,.string (strB t.s),.int .i64 t.n,.int .i64 t.line,.int .i64 t.at0] 72):=⟨_,rfl⟩
 have h2:RdAt r g o cap (t::ts) w2:=by rw [hw2];exact (h0.alloc _).alloc _
 have k2:Kept r w w2:=by rw [hw2];exact (((Kept.refl r w).alloc _).alloc _).alloc _
 have n0:w2.heap[w.heap.size]?=some exZ:=by
  rw [hw2,Below.heap_alloc _ _ _ (by simp;omega),Below.heap_alloc _ _ _ (by simp)]
  exact World.alloc_heap_new _ _
 have n2:w2.heap[w.heap.size+1+1]?=some (.cells #[.int .i64 3,.string (strB t.s),.int .i64 t.n,.int .i64 t.line,.int .i64 t.at0] 72):=by
  have hx:=World.alloc_heap_new ((w.alloc exZ).alloc (tkO t)) (.cells #[.int .i64 3,.string (strB t.s),.int .i64 t.n,.int .i64 t.line,.int .i64 t.at0] 72)
  rw [←hw2,show ((w.alloc exZ).alloc (tkO t)).heap.size=w.heap.size+1+1 by simp] at hx
  exact hx
 have hl2:w.heap.size+1+1<w2.heap.size:=(Array.getElem?_eq_some_iff.1 n2).1
 have HW2:Hid (w2=((w.alloc exZ).alloc (tkO t)).alloc (.cells #[.int .i64 3,.string (strB t.s),.int .i64 t.n,.int .i64 t.line,.int .i64 t.at0] 72)):=hw2
 clear h h0 hw2
 have cs:=rdStep r g o cap t ts w2 h2 hne
 go_enter Tryz.func177,Tryz.ntmps177
 go_wp2_with fail
 refine ch.mono ?_
 clear ch
 rintro e w1 ⟨rfl,rfl⟩
 simp only [tkV]
 go_wp2_with fail
 rw [←HW2.out]
 refine cs.mono ?_
 clear cs HW2
 rintro e w3 ⟨rfl,hw3⟩
 have k3:Kept r w w3:=by rw [hw3];exact k2.setCell 0 _
 have k23:Kept r w2 w3:=by rw [hw3];exact (Kept.refl r w2).setCell 0 _
 have h3:RdAt r g (o+5) (cap-1) ts w3:=by rw [hw3];exact h2.next
 have p0:=(k23.block _ (Array.getElem?_eq_some_iff.1 n0).1 (by omega)).trans n0
 have p2:=(k23.block _ hl2 (by omega)).trans n2
 obtain ⟨c0,c1,c2,c3,c4,-⟩:=cells5 p2
 obtain ⟨q0,q1,q2,q3,q4,qf⟩:=cells5 p0
 obtain ⟨z0,z1,z2,z3,z4⟩:=set5_cells p0 (.int .i64 3) (.string (strB t.s)) (.int .i64 0) (.slice none 0 0) (.int .i64 t.line)
 have HP:Hid (PostE r g w (.ok (.mk 3 t.s 0 [] t.line,ts)) (.returned (.agg #[.int .i64 3,(.string (strB t.s)),(.int .i64 0),.slice none 0 0,.int .i64 t.line])) (set5 w3 w.heap.size (.int .i64 3) (.string (strB t.s)) (.int .i64 0) (.slice none 0 0) (.int .i64 t.line))) :=
  PostE.of_set5 (B:=w.heap.size+1) 3 t.s 0 t.line k3 (Nat.le_refl _) hr hgw (.inl ⟨rfl,rfl⟩) (Nat.lt_succ_self _) h3
 clear k3 k23 h3 p0 p2 n0 n2 h2 k2 hw3
 go_wp2
 exact bodyPost_ret (v:=.agg #[.int .i64 3,(.string (strB t.s)),(.int .i64 0),.slice none 0 0,.int .i64 t.line]) (by simp [results,Tryz.results177,go_sem,z0,z1,z2,z3,z4]) rfl HP.out
set_option maxHeartbeats 4000000 in
theorem rdSingleName (r g o cap:Nat) (t:Tk) (ts:List Tk) (w:World) (res:PR Ex) (h:RdAt r g o cap (t::ts) w) (hk:t.k=1)
  (hn:∀w1,RdAt r g o cap (t::ts) w1→Kept r w w1→Calls Tryz.prog 195 #[.pointer (some ⟨r,0,none⟩)] w1 (PostE r g w1 res)) :
  Calls Tryz.prog 177 #[.pointer (some ⟨r,0,none⟩)] w (PostE r g w res):=by
 have hr:=h.lt.1
 have hgw:=h.lt.2
 have h0:=h.alloc exZ
 have ch:=rdHere r g o cap t ts _ h0
 obtain ⟨w2,hw2⟩:∃w2,w2=((w.alloc exZ).alloc (tkO t)).alloc (.cells #[.int .i64 1,.string (strB t.s),.int .i64 t.n,.int .i64 t.line,.int .i64 t.at0] 72):=⟨_,rfl⟩
 have h2:RdAt r g o cap (t::ts) w2:=by rw [hw2];exact (h0.alloc _).alloc _
 have k2:Kept r w w2:=by rw [hw2];exact (((Kept.refl r w).alloc _).alloc _).alloc _
 have n0:w2.heap[w.heap.size]?=some exZ:=by
  rw [hw2,Below.heap_alloc _ _ _ (by simp;omega),Below.heap_alloc _ _ _ (by simp)]
  exact World.alloc_heap_new _ _
 have n2:w2.heap[w.heap.size+1+1]?=some (.cells #[.int .i64 1,.string (strB t.s),.int .i64 t.n,.int .i64 t.line,.int .i64 t.at0] 72):=by
  have hx:=World.alloc_heap_new ((w.alloc exZ).alloc (tkO t)) (.cells #[.int .i64 1,.string (strB t.s),.int .i64 t.n,.int .i64 t.line,.int .i64 t.at0] 72)
  rw [←hw2,show ((w.alloc exZ).alloc (tkO t)).heap.size=w.heap.size+1+1 by simp] at hx
  exact hx
 have hl2:w.heap.size+1+1<w2.heap.size:=(Array.getElem?_eq_some_iff.1 n2).1
 have HW2:Hid (w2=((w.alloc exZ).alloc (tkO t)).alloc (.cells #[.int .i64 1,.string (strB t.s),.int .i64 t.n,.int .i64 t.line,.int .i64 t.at0] 72)):=hw2
 clear h h0 hw2
 have cs:=hn w2 h2 k2
 clear hn
 go_enter Tryz.func177,Tryz.ntmps177
 go_wp2_with fail
 refine ch.mono ?_
 clear ch
 rintro e w1 ⟨rfl,rfl⟩
 simp only [tkV]
 go_wp2_with fail
 rw [←HW2.out]
 refine cs.mono ?_
 clear cs HW2
 rintro e w3 ⟨hk3,hpost⟩
 have k3:Kept r w w3:=k2.trans hk3
 rcases res with a | ⟨x,us⟩
 ·obtain rfl:=hpost
  exact ⟨rfl,k3,rfl⟩
 ·obtain ⟨v,o3,cap3,rfl,hx,hrd⟩:=hpost
  obtain ⟨a,b,c,d0,d1,d2,l,rfl⟩:=hx.agg
  have p0:=(hk3.block _ (Array.getElem?_eq_some_iff.1 n0).1 (by omega)).trans n0
  obtain ⟨q0,q1,q2,q3,q4,qf⟩:=cells5 p0
  obtain ⟨z0,z1,z2,z3,z4⟩:=set5_cells p0 (.int .i64 a) (.string b) (.int .i64 c) (.slice d0 d1 d2) (.int .i64 l)
  have HP:Hid (PostE r g w (.ok (x,us)) (.returned (.agg #[.int .i64 a,.string b,.int .i64 c,.slice d0 d1 d2,.int .i64 l])) (set5 w3 w.heap.size (.int .i64 a) (.string b) (.int .i64 c) (.slice d0 d1 d2) (.int .i64 l))) :=
   PostE.of_set5' k3 (Nat.le_refl _) hr hgw hx (by omega) hrd
  clear k3 hk3 p0 n0 n2 h2 k2 hx hrd
  go_wp2
  exact bodyPost_ret (v:=.agg #[.int .i64 a,.string b,.int .i64 c,.slice d0 d1 d2,.int .i64 l]) (by simp [results,Tryz.results177,go_sem,z0,z1,z2,z3,z4]) rfl HP.out
structure ReadsE (r g f:Nat):Prop where
 between:∀least w o cap ts res,pBetween f least ts=some res→EndsT ts→RdAt r g o cap ts w→LevT w→Calls Tryz.prog 77 #[.pointer (some ⟨r,0,none⟩),.int .i64 (least:Nat)] w (PostE r g w res)
 unary:∀w o cap ts res,pUnary f ts=some res→EndsT ts→RdAt r g o cap ts w→LevT w→Calls Tryz.prog 121 #[.pointer (some ⟨r,0,none⟩)] w (PostE r g w res)
 single:∀w o cap ts res,pSingle f ts=some res→EndsT ts→RdAt r g o cap ts w→LevT w→Calls Tryz.prog 177 #[.pointer (some ⟨r,0,none⟩)] w (PostE r g w res)
 row:∀w o cap ts res,pRow f [] ts=some res→EndsT ts→RdAt r g o cap ts w→LevT w→Calls Tryz.prog 197 #[.pointer (some ⟨r,0,none⟩),.func (.func 37) #[.pointer (some ⟨r,0,none⟩)] #[]] w (PostL r g w res)
 brackets:∀w o cap ts res,pBrackets f ts=some res→EndsT ts→RdAt r g o cap ts w→LevT w→Calls Tryz.prog 196 #[.pointer (some ⟨r,0,none⟩),.func (.func 37) #[.pointer (some ⟨r,0,none⟩)] #[]] w (PostL r g w res)
theorem ReadsE.expr {r g f:Nat} (C:ReadsE r g f) (hrl:r≠1) (w:World) (o cap:Nat) (ts:List Tk) (res:PR Ex) (hp:pBetween f 1 ts=some res) (hE:EndsT ts) (h:RdAt r g o cap ts w) (hl:LevT w) :
  Calls Tryz.prog 37 #[.pointer (some ⟨r,0,none⟩)] w (PostE r g w res):=by
 obtain ⟨t,us,rfl⟩:=hE.cons
 exact rdExpr r g w res h.lt.1 h.lt.2 (C.between 1 _ o cap _ res hp hE (h.alloc _) (hl.kept ((Kept.refl r w).alloc _) hrl))
theorem thenP_some {α β:Type} {x:Option (PR α)} {k:α→List Tk→Option (PR β)} {r:PR β} (h:thenP x k=some r):∃r1,x=some r1:=by
 cases x with
 | none=>cases h
 | some r1=>exact ⟨r1,rfl⟩
theorem ReadsE.next {r g f:Nat} (hrl:r≠1) (C:ReadsE r g f)
  (HB:∀o cap least ts w res,RdAt r g o cap ts w→EndsT ts→LevT w→least≤6→pBetween (f+1) least ts=some res→Calls Tryz.prog 77 #[.pointer (some ⟨r,0,none⟩),.int .i64 (least:Nat)] w (PostE r g w res))
  (HW:∀o cap ts w res,RdAt r g o cap ts w→EndsT ts→LevT w→thenP (pSingle f ts) (fun e ts=>pBehind f e ts)=some res→Calls Tryz.prog 148 #[.pointer (some ⟨r,0,none⟩)] w (PostE r g w res)):ReadsE r g (f+1) where
 between:=fun least w o cap ts res hp hE h hl=>by
  by_cases h6:6<least
  ·obtain ⟨t,us,rfl⟩:=hE.cons
   rw [pBetween,if_pos h6] at hp
   exact rdTightest r g least w res h.lt.1 h.lt.2 h6 (C.unary _ o cap _ res hp hE (h.alloc _) (hl.kept ((Kept.refl r w).alloc _) hrl))
  ·exact HB o cap least ts w res h hE hl (by omega) hp
 unary:=fun w o cap ts res hp hE h hl=>by
  obtain ⟨t,us,rfl⟩:=hE.cons
  rw [pUnary] at hp
  simp only [hdT_cons,List.tail_cons] at hp
  by_cases hs:t.k=4∧(t.s=[45]∨t.s=[33])
  ·rw [if_pos hs] at hp
   obtain ⟨r1,h1⟩:=thenP_some hp
   have hE1:=hE.tail (by omega:t.k≠0)
   have hc:=rdUnaryAhead r g o cap t us w r1 h hE hs.1 (by simpa using hs.2) fun w1 o1 cap1 hR hK=>C.unary w1 o1 cap1 us r1 h1 hE1 hR (hl.kept hK hrl)
   have hr:unaryR t r1=res:=by
    rw [h1] at hp
    rcases r1 with a | ⟨x,vs⟩ <;> simpa [thenP,unaryR] using hp
   rw [←hr];exact hc
  ·rw [if_neg hs] at hp
   exact rdUnaryElse r g o cap t us w res h hs fun w1 hR hK=>HW o cap _ w1 res hR hE (hl.kept hK hrl) hp
 row:=fun w o cap ts res hp hE h hl=>rdRow r g o cap f ts w res h hE h.few hp fun w1 o1 cap1 ts1 r1 hb hE1 _ hR hK=>C.expr hrl w1 o1 cap1 ts1 r1 hb hE1 hR (hl.kept hK hrl)
 brackets:=fun w o cap ts res hp hE h hl=>by
  obtain ⟨t,us,rfl⟩:=hE.cons
  rw [pBrackets] at hp
  simp only [needP,hdT_cons,List.tail_cons] at hp
  by_cases hi:isTk t [40]=true
  ·rw [if_pos hi] at hp
   simp only [thenP] at hp
   have hE1:=hE.tail (isTk_kind hi)
   by_cases hj:isTk (hdT us) [41]=true
   ·rw [if_pos hj] at hp
    have hr:bracketsR t us (.error 0)=res:=by unfold bracketsR;rw [if_pos hi,if_pos hj];simpa using hp
    rw [←hr]
    exact rdBrackets r g o cap _ t us w (.error 0) h hE (fun _ _ h=>by cases h) fun _ hj'=>by rw [hj] at hj';cases hj'
   ·rw [if_neg hj] at hp
    change thenP (pRow f [] us) _=some res at hp
    obtain ⟨r1,h1⟩:=thenP_some hp
    have hr:bracketsR t us r1=res:=by
     unfold bracketsR
     rw [if_pos hi,if_neg hj]
     rw [h1] at hp
     rcases r1 with a | ⟨l,vs⟩
     ·simpa [thenP] using hp
     ·simp only [thenP] at hp
      by_cases hk:isTk (hdT vs) [41]=true
      ·simpa [hk] using hp
      ·simpa [hk] using hp
    rw [←hr]
    exact rdBrackets r g o cap _ t us w r1 h hE (fun l vs he=>by subst he;exact (parse_ends f).2.2.2.2.2.1 _ _ _ _ h1 hE1) fun _ _ w1 o1 cap1 hR hK=>C.row w1 o1 cap1 us r1 h1 hE1 hR (hl.kept hK hrl)
  ·rw [if_neg hi] at hp
   have hr:bracketsR t us (.error 0)=res:=by unfold bracketsR;rw [if_neg hi];exact Option.some.inj hp
   rw [←hr]
   exact rdBrackets r g o cap _ t us w (.error 0) h hE (fun _ _ h=>by cases h) fun hi'=>absurd hi' hi
 single:=fun w o cap ts res hp hE h hl=>by
  obtain ⟨t,us,rfl⟩:=hE.cons
  rw [pSingle] at hp
  simp only [hdT_cons,List.tail_cons] at hp
  by_cases h2:t.k=2
  ·rw [if_pos h2] at hp
   simp only [Option.some.injEq] at hp
   subst hp
   exact rdSingleInt r g o cap t us w h h2 (hE.tail (by omega)).ne
  ·rw [if_neg h2] at hp
   by_cases h3:t.k=3
   ·rw [if_pos h3] at hp
    simp only [Option.some.injEq] at hp
    subst hp
    exact rdSingleStr r g o cap t us w h h3 (hE.tail (by omega)).ne
   ·rw [if_neg h3] at hp
    by_cases h1:t.k=1
    ·rw [if_pos h1] at hp
     have hE1:=hE.tail (by omega:t.k≠0)
     obtain ⟨u,vs,rfl⟩:=hE1.cons
     refine rdSingleName r g o cap t (u::vs) w res h h1 fun w1 hR hK=>?_
     simp only [hdT_cons] at hp
     by_cases hi:isTk u [40]=true
     ·rw [if_pos hi] at hp
      obtain ⟨r1,hb⟩:=thenP_some hp
      have hr:callR t r1=res:=by
       rw [hb] at hp
       rcases r1 with a | ⟨l,xs⟩ <;> simpa [thenP,callR] using hp
      rw [←hr]
      exact rdNameCall r g o cap t u vs w1 r1 hR h1 hi fun w2 o2 cap2 hR2 hK2=>C.brackets w2 o2 cap2 _ r1 hb hE1 hR2 ((hl.kept hK hrl).kept hK2 hrl)
     ·rw [if_neg hi] at hp
      simp only [Option.some.injEq] at hp
      subst hp
      exact rdNameAlone r g o cap t u vs w1 hR h1 (by simpa using hi)
    ·rw [if_neg h1] at hp
     by_cases hT:isTk t [116,114,117,101]=true
     ·rw [if_pos hT] at hp
      simp only [Option.some.injEq] at hp
      subst hp
      exact rdSingleTrue r g o cap t us w hT h hE h1 h2 h3
     ·rw [if_neg hT] at hp
      have hT':isTk t [116,114,117,101]=false:=by simpa using hT
      by_cases hF:isTk t [102,97,108,115,101]=true
      ·rw [if_pos hF] at hp
       simp only [Option.some.injEq] at hp
       subst hp
       exact rdSingleFalse r g o cap t us w hF h hE h1 h2 h3 hT'
      ·rw [if_neg hF] at hp
       have hF':isTk t [102,97,108,115,101]=false:=by simpa using hF
       by_cases hN:isTk t [110,101,119]=true
       ·rw [if_pos hN] at hp
        have hE1:=hE.tail (isTk_kind hN)
        obtain ⟨u,vs,rfl⟩:=hE1.cons
        simp only [nameP,hdT_cons,List.tail_cons] at hp
        by_cases hk:u.k=1
        ·rw [if_pos hk] at hp
         change thenP (pBrackets f vs) _=some res at hp
         obtain ⟨r1,hb⟩:=thenP_some hp
         have hr:newR t u r1=res:=by
          unfold newR
          rw [if_pos hk]
          rw [hb] at hp
          rcases r1 with a | ⟨l,xs⟩ <;> simpa [thenP] using hp
         rw [←hr]
         exact rdSingleNew r g o cap t u vs w r1 hN (fun _ w2 o2 cap2 hR2 hK2=>C.brackets w2 o2 cap2 _ r1 hb (hE1.tail (by omega)) hR2 (hl.kept hK2 hrl)) h hE h1 h2 h3 hT' hF'
        ·rw [if_neg hk] at hp
         have hr:newR t u (.error 0)=res:=by unfold newR;rw [if_neg hk];simpa [thenP] using hp
         rw [←hr]
         exact rdSingleNew r g o cap t u vs w (.error 0) hN (fun hk'=>absurd hk' hk) h hE h1 h2 h3 hT' hF'
       ·rw [if_neg hN] at hp
        have hN':isTk t [110,101,119]=false:=by simpa using hN
        by_cases hA:isTk t [91]=true
        ·rw [if_pos hA] at hp
         have hE1:=hE.tail (isTk_kind hA)
         obtain ⟨r1,hb⟩:=thenP_some hp
         have hr:arrayR t r1=res:=by
          unfold arrayR
          rw [hb] at hp
          rcases r1 with a | ⟨l,xs⟩
          ·simpa [thenP] using hp
          ·simp only [thenP,needP] at hp
           by_cases hk:isTk (hdT xs) [93]=true
           ·simpa [hk] using hp
           ·simpa [hk] using hp
         rw [←hr]
         exact rdSingleArray r g o cap t us w r1 hA (fun l xs he=>by subst he;exact (parse_ends f).2.2.2.2.2.1 _ _ _ _ hb hE1) (fun w2 o2 cap2 hR2 hK2=>C.row w2 o2 cap2 _ r1 hb hE1 hR2 (hl.kept hK2 hrl)) h hE h1 h2 h3 hT' hF' hN'
        ·rw [if_neg hA] at hp
         have hA':isTk t [91]=false:=by simpa using hA
         simp only [needP,hdT_cons,List.tail_cons] at hp
         by_cases hP:isTk t [40]=true
         ·rw [if_pos hP] at hp
          change thenP (pBetween f 1 us) _=some res at hp
          have hE1:=hE.tail (isTk_kind hP)
          obtain ⟨r1,hb⟩:=thenP_some hp
          have hr:parenR t r1=res:=by
           unfold parenR
           rw [if_pos hP]
           rw [hb] at hp
           rcases r1 with a | ⟨l,xs⟩
           ·simpa [thenP] using hp
           ·simp only [thenP] at hp
            by_cases hk:isTk (hdT xs) [41]=true
            ·simpa [hk] using hp
            ·simpa [hk] using hp
          rw [←hr]
          exact rdSingleParen r g o cap t us w r1 (fun l xs he=>by subst he;exact (parse_ends f).1 _ _ _ _ hb hE1) (fun _ w2 o2 cap2 hR2 hK2=>C.expr hrl w2 o2 cap2 _ r1 hb hE1 hR2 (hl.kept hK2 hrl)) h hE h1 h2 h3 hT' hF' hN' hA'
         ·rw [if_neg hP] at hp
          have hr:parenR t (.error 0)=res:=by unfold parenR;rw [if_neg hP];simpa [thenP] using hp
          rw [←hr]
          exact rdSingleParen r g o cap t us w (.error 0) (fun _ _ h=>by cases h) (fun hP'=>absurd hP' hP) h hE h1 h2 h3 hT' hF' hN' hA'
def pClose (f:Nat) (e:Ex) (ts:List Tk):Option (PR Ex):=thenP (needP [93] ts) fun _ ts=>pBehind f e ts
set_option maxHeartbeats 8000000 in
theorem rdParts (r g o cap F:Nat) (ts:List Tk) (w:World) (res:PR Ex) (h:RdAt r g o cap ts w) (hE:EndsT ts) (hp:thenP (pSingle F ts) (fun e ts=>pBehind F e ts)=some res)
  (hsg:∀w1 o1 cap1 ts1 r1,pSingle F ts1=some r1→EndsT ts1→RdAt r g o1 cap1 ts1 w1→Kept r w w1→Calls Tryz.prog 177 #[.pointer (some ⟨r,0,none⟩)] w1 (PostE r g w1 r1))
  (hex:∀w1 o1 cap1 ts1 r1,pBetween F 1 ts1=some r1→EndsT ts1→RdAt r g o1 cap1 ts1 w1→Kept r w w1→Calls Tryz.prog 37 #[.pointer (some ⟨r,0,none⟩)] w1 (PostE r g w1 r1)) :
  Calls Tryz.prog 148 #[.pointer (some ⟨r,0,none⟩)] w (PostE r g w res):=by
 obtain ⟨t0,ts0,rfl⟩:=hE.cons
 have hr:=h.lt.1
 have hgw:=h.lt.2
 cases hb:pSingle F (t0::ts0) with
 | none=>rw [hb] at hp;cases hp
 | some r1 =>
  obtain ⟨w0,hw0⟩:∃w0,w0=w.alloc exZ:=⟨_,rfl⟩
  have c1:=hsg w0 o cap (t0::ts0) r1 hb hE (by rw [hw0];exact h.alloc _) (by rw [hw0];exact (Kept.refl r w).alloc _)
  rw [hb] at hp
  simp only [thenP] at hp
  have HW0:Hid (w0=w.alloc exZ):=hw0
  have HEX1:Hid (∀w1 o1 cap1 ts1 r1,pBetween F 1 ts1=some r1→EndsT ts1→RdAt r g o1 cap1 ts1 w1→Kept r w w1→Calls Tryz.prog 37 #[.pointer (some ⟨r,0,none⟩)] w1 (PostE r g w1 r1)):=hex
  clear hw0 hex hsg
  go_enter Tryz.func148,Tryz.ntmps148
  go_wp2_with fail
  rw [←HW0.out]
  refine c1.mono ?_
  clear c1
  rintro e w1 ⟨hk1,hpost⟩
  have hkk:Kept r w w1:=by have:=HW0.out;subst this;exact ((Kept.refl r w).alloc _).trans hk1
  rcases r1 with a | ⟨x,us⟩
  ·obtain rfl:=hpost
   simp only [Option.some.injEq] at hp
   subst hp
   exact ⟨rfl,hkk,rfl⟩
  ·obtain ⟨v,o1,cap1,rfl,hx,hrd⟩:=hpost
   obtain ⟨a,b,c,d0,d1,d2,l,rfl⟩:=hx.agg
   have hE1:=(parse_ends F).2.2.2.2.1 _ _ _ hb hE
   have hJ:=MoreJ.start (p:=fun f e ts=>pBehind f e ts) (res:=res) HW0.out hr hk1 hx hrd hp hE1 hrd.few
   have HJ:Hid (MoreJ r g w1.heap.size F w res (fun f e ts=>pBehind f e ts) (w1.alloc (.cells #[.int .i64 a,.string b,.int .i64 c,.slice d0 d1 d2,.int .i64 l] 40))):=hJ
   have hNw:w.heap.size<w1.heap.size:=by have:=hk1.size;have h2:=HW0.out;subst h2;simp at this;omega
   obtain ⟨N,hNe⟩:∃N,N=w1.heap.size:=⟨_,rfl⟩
   rw [←hNe] at HJ hNw
   clear hJ hx hrd hk1 hE1 hp hb hE h hkk HW0
   go_wp2_with fail
   rw [←hNe]
   generalize hW0:w1.alloc (.cells #[.int .i64 a,.string b,.int .i64 c,.slice d0 d1 d2,.int .i64 l] 40)=W0 at *
   clear hW0 hNe
   go_loopw [7] (fun _ wr=>MoreJ r g N F w res (fun f e ts=>pBehind f e ts) wr) (fun _ wr=>leftR r wr)
   case atStart=>exact HJ.out
   case round =>
    obtain ⟨e,ts2,o2,cap2,f2,a2,b2,c2,p2,q2,s2,l2,hf2,hT,hE2,hN2,hblk,hx2,hrd2,hk2,hz2⟩:=hrel
    obtain ⟨t2,ts3,rfl⟩:=hE2.cons
    obtain rfl:l2=(e.line:Int):=hx2.line_eq
    clear HJ
    have cs:=rdSkip r g o2 cap2 t2 ts3 [91] wr hrd2 (fun hi=>(hE2.tail (isTk_kind hi)).ne)
    have hleft:=hrd2.left
    have HEX:Hid (∀W,Kept r wr W→RdAt r g o2 cap2 (t2::ts3) W→W.heap[N]?=some (.cells #[.int .i64 a2,.string b2,.int .i64 c2,.slice p2 q2 s2,.int .i64 (e.line:Int)] 40 (0,0))∧W.heap[w.heap.size]?=some exZ ∧
     PostE r g w (.ok (e,t2::ts3)) (.returned (.agg #[.int .i64 a2,.string b2,.int .i64 c2,.slice p2 q2 s2,.int .i64 (e.line:Int)])) (set5 W w.heap.size (.int .i64 a2) (.string b2) (.int .i64 c2) (.slice p2 q2 s2) (.int .i64 (e.line:Int)))) :=
     fun W hK hrd=>MoreJ.leave hr hgw hNw hk2 hblk hz2 hx2 hK hrd
    have HBLK:Hid (∀W,Kept r wr W→W.heap[N]?=some (.cells #[.int .i64 a2,.string b2,.int .i64 c2,.slice p2 q2 s2,.int .i64 (e.line:Int)] 40 (0,0))∧W.heap[w.heap.size]?=some exZ) :=
     fun W hK=>⟨(hK.block _ (Array.getElem?_eq_some_iff.1 hblk).1 (by omega)).trans hblk,(hK.block _ (Array.getElem?_eq_some_iff.1 hz2).1 (by omega)).trans hz2⟩
    have HX2:Hid (ExIn (fun k=>w.heap.size<k∧k≠N) wr e (.agg #[.int .i64 a2,.string b2,.int .i64 c2,.slice p2 q2 s2,.int .i64 (e.line:Int)])):=hx2
    have HK2:Hid (Kept r w wr):=hk2
    have HE2:Hid (EndsT (t2::ts3)):=hE2
    cases f2 with
    | zero=>simp [pBehind] at hT
    | succ f3 =>
     have hf3:f3≤F:=by omega
     simp only [pBehind,hdT_cons,List.tail_cons] at hT
     clear hx2 hk2 hrd2 hE2 hblk hz2
     by_cases hi:isTk t2 [91]=true
     ·rw [hi] at cs
      rw [if_pos hi] at hT
      have hE3:=HE2.out.tail (isTk_kind hi)
      go_wp2_with fail
      refine cs.mono ?_
      clear cs
      rintro e' wE ⟨rfl,hkE,hrE⟩
      simp only [if_true] at hrE
      obtain ⟨pN,pz⟩:=HBLK.out wE hkE
      have HKE:Hid (Kept r wr wE):=hkE
      have HKW:Hid (Kept r w wE):=HK2.out.trans hkE
      have hNlt:N<wE.heap.size:=(Array.getElem?_eq_some_iff.1 pN).1
      cases hb3:pBetween f3 1 ts3 with
      | none=>rw [hb3] at hT;cases hT
      | some r3 =>
       rw [hb3] at hT
       simp only [thenP] at hT
       have hb4:pBetween F 1 ts3=some r3:=by
        have:=pBetween_up (k:=F-f3) hb3
        rwa [show f3+(F-f3)=F by omega] at this
       have cb:∀W:World,W.heap=wE.heap→W.os=wE.os→W.tape=wE.tape→W.output=wE.output→Calls Tryz.prog 37 #[.pointer (some ⟨r,0,none⟩)] W fun e w'=>Kept r wE w'∧PostE r g W r3 e w':=fun W e1 e2 e3 e4 =>
        (HEX1.out W _ _ ts3 r3 hb4 hE3 (hrE.keep (by rw [e1]) (by rw [e1])) ⟨e2.trans HKW.out.os,e3.trans HKW.out.tape,e4.trans HKW.out.output,by rw [e1];exact HKW.out.size,fun k hk hr=>by rw [e1];exact HKW.out.block k hk hr⟩).mono fun e w' h =>
         ⟨⟨h.1.os.trans e2,h.1.tape.trans e3,h.1.output.trans e4,by rw [←e1];exact h.1.size,fun k hk hr=>by rw [←e1];exact h.1.block k (by rw [e1];exact hk) hr⟩,h⟩
       obtain ⟨n0,n1,n2,n3,n4,nf⟩:=cells5 pN
       have HPN:Hid (wE.heap[N]?=some (.cells #[.int .i64 a2,.string b2,.int .i64 c2,.slice p2 q2 s2,.int .i64 (e.line:Int)] 40 (0,0))):=pN
       have HPZ:Hid (wE.heap[w.heap.size]?=some exZ):=pz
       clear pN pz hrE hkE HEX1 HBLK HEX
       rcases r3 with a3 | ⟨x3,us3⟩
       ·simp only [Option.some.injEq] at hT
        subst hT
        have cu':∀W:World,W.heap=wE.heap→W.os=wE.os→W.tape=wE.tape→W.output=wE.output→Calls Tryz.prog 37 #[.pointer (some ⟨r,0,none⟩)] W fun e w'=>e=gaveUp a3∧Kept r w w':=fun W e1 e2 e3 e4=>(cb W e1 e2 e3 e4).mono fun e w' h=>⟨h.2.2,HKW.out.trans h.1⟩
        clear cb
        go_wp2_with fail
        go_region_dies
        all_goals (go_wp2_with fail;refine (cu' _ (by rfl) (by rfl) (by rfl) (by rfl)).mono ?_;rintro e w4 ⟨rfl,hk4⟩;exact ⟨rfl,hk4,rfl⟩)
       ·have hE5:=(parse_ends F).1 _ _ _ _ hb4 hE3
        have hl5:=pBetween_len hb4
        have hl7:us3.length<leftR r wr:=by rw [hleft];simp only [List.length_cons];omega
        have HT:Hid (pClose f3 (.mk 8 [] 0 [e,x3] e.line) us3=some res):=hT
        have cu':∀W:World,W.heap=wE.heap→W.os=wE.os→W.tape=wE.tape→W.output=wE.output→Calls Tryz.prog 37 #[.pointer (some ⟨r,0,none⟩)] W fun e' w'=>∃(a3:Int) (b3:ByteArray) (c3:Int) (u0:Option Addr) (u1 u2:Nat) (l3:Int),e'=.returned (.agg #[.int .i64 a3,.string b3,.int .i64 c3,.slice u0 u1 u2,.int .i64 l3]) ∧
          w'.heap[N]?=some (.cells #[.int .i64 a2,.string b2,.int .i64 c2,.slice p2 q2 s2,.int .i64 (e.line:Int)] 40 (0,0))∧Hid (Kept r wE w'∧ExAt wE.heap.size w' x3 (.agg #[.int .i64 a3,.string b3,.int .i64 c3,.slice u0 u1 u2,.int .i64 l3])∧∃o cap,RdAt r g o cap us3 w'):=fun W e1 e2 e3 e4=>(cb W e1 e2 e3 e4).mono fun e' w' h=>by
         obtain ⟨hk4,-,v,o4,cap4,rfl,hx,hrd⟩:=h
         obtain ⟨a3,b3,c3,u0,u1,u2,l3,rfl⟩:=hx.agg
         exact ⟨a3,b3,c3,u0,u1,u2,l3,rfl,(hk4.block N hNlt (by omega)).trans HPN.out,hk4,(by rw [←e1];exact hx:ExAt wE.heap.size w' x3 _),o4,cap4,hrd⟩
        clear cb hT
        go_wp2_with fail
        go_cut [] from 6 to 28 (fun wx=>MoreJ r g N F w res pClose wx∧leftR r wx<leftR r wr)
        case first =>
         go_region_with (go_at_call 37;refine (cu' _ (by rfl) (by rfl) (by rfl) (by rfl)).mono ?_;rintro e' w7 ⟨a3,b3,c3,u0,u1,u2,l3,rfl,p7,H7⟩;have hN7:N<w7.heap.size:=(Array.getElem?_eq_some_iff.1 p7).1;have p7':=(fun ob=>(Below.heap_alloc w7 ob N hN7).trans p7);obtain ⟨m0,m1,m2,m3,m4,mf⟩:=cells5 p7;have m0':=cell_al m0;have m1':=cell_al m1;have m2':=cell_al m2;have m3':=cell_al m3;have m4':=cell_al m4;have mf':=(fun ob j=>(cells5 (p7' ob)).2.2.2.2.2 j))
         all_goals
          obtain ⟨hk7,hx7,o7,cap7,hrd7⟩:=H7.out
          obtain ⟨W,hW⟩:∃W,W=(set5 w7 N (.int .i64 8) (.string ⟨#[]⟩) (.int .i64 0) (.slice (some ⟨w7.heap.size,0,none⟩) 2 2) (.int .i64 (e.line:Int))).alloc (.cells #[.int .i64 a2,.string b2,.int .i64 c2,.slice p2 q2 s2,.int .i64 (e.line:Int),.int .i64 a3,.string b3,.int .i64 c3,.slice u0 u1 u2,.int .i64 l3] 40):=⟨_,rfl⟩
          obtain ⟨hJ,hlt7⟩:=MoreJ.two (p:=pClose) 8 [] hr hgw hNw hNlt HX2.out HK2.out HKE.out hk7 p7 HPZ.out hx7 hrd7 hf3 HT.out hE5 hrd7.few (.int .i64 8) rfl W hW
          have HJW:Hid (MoreJ r g N F w res pClose W∧leftR r W<leftR r wr):=show _∧_<_ from ⟨hJ,by rw [hlt7];exact hl7⟩
          change Exit.then _ _ _ _ ((set5 w7 N (.int .i64 8) (.string ⟨#[]⟩) (.int .i64 0) (.slice (some ⟨w7.heap.size,0,none⟩) 2 2) (.int .i64 (e.line:Int))).alloc (.cells #[.int .i64 a2,.string b2,.int .i64 c2,.slice p2 q2 s2,.int .i64 (e.line:Int),.int .i64 a3,.string b3,.int .i64 c3,.slice u0 u1 u2,.int .i64 l3] 40))
          rw [←hW]
          clear hW hJ hlt7 hrd7 hx7 hk7 p7 p7' m0 m1 m2 m3 m4 mf m0' m1' m2' m3' m4' mf' n0 n1 n2 n3 n4 nf cu' H7 HPN HPZ HT HKE HKW HX2 HK2 HE2 hl5 hl7 hE5 hE3
          go_wp2_with fail
          go_meet
          exact HJW.out
        case rest =>
         obtain ⟨⟨e5,ts5,o5,cap5,f5,a5,b5,c5,p5,q5,s5,l5,hf5,hT5,hE6,hN5,hblk5,hx5,hrd5,hk5,hz5⟩,hlt⟩:=hcut
         obtain ⟨t5,ts6,rfl⟩:=hE6.cons
         have cn:=rdNeed r g o5 cap5 t5 ts6 [93] wc hrd5 (fun hi=>(hE6.tail (isTk_kind hi)).ne)
         have hleft5:=hrd5.left
         unfold pClose needP at hT5
         simp only [hdT_cons,List.tail_cons] at hT5
         by_cases hm:isTk t5 [93]=true
         ·simp only [if_pos hm] at cn
          rw [if_pos hm] at hT5
          have HMV:Hid (∀W,Kept r wc W→RdAt r g (o5+5) (cap5-1) ts6 W→MoreJ r g N F w res (fun f e ts=>pBehind f e ts) W∧leftR r W<leftR r wr):=fun W hK hR =>
           ⟨MoreJ.moved (p:=fun f e ts=>pBehind f e ts) hr hNw hblk5 hx5 hk5 hz5 hK hR hf5 hT5 (hE6.tail (isTk_kind hm)),by rw [hR.left];simp only [List.length_cons] at hleft5;omega⟩
          clear hT5 hblk5 hx5 hrd5 hk5 hz5 cu' HT HX2 HK2 HE2 HKE HKW HPN HPZ n0 n1 n2 n3 n4 nf
          go_wp2_with fail
          refine cn.mono ?_
          clear cn
          rintro e9 w9 ⟨hk9,rfl,hr9⟩
          have HM9:Hid (MoreJ r g N F w res (fun f e ts=>pBehind f e ts) w9∧leftR r w9<leftR r wr):=HMV.out w9 hk9 hr9
          clear HMV hk9 hr9
          go_wp2
          exact HM9.out
         ·simp only [if_neg hm] at cn
          rw [if_neg hm] at hT5
          simp only [thenP,Option.some.injEq] at hT5
          subst hT5
          have HK5:Hid (Kept r w wc):=hk5
          clear hblk5 hx5 hrd5 hk5 hz5 cu' HT HX2 HK2 HE2 HKE HKW HPN HPZ n0 n1 n2 n3 n4 nf
          go_wp2_with fail
          refine cn.mono ?_
          clear cn
          rintro e9 w9 ⟨hk9,rfl⟩
          exact ⟨rfl,HK5.out.trans hk9,rfl⟩
     ·have hi':isTk t2 [91]=false:=by simpa using hi
      rw [hi'] at cs
      rw [if_neg hi] at hT
      go_wp2_with fail
      refine cs.mono ?_
      clear cs
      rintro e' wB ⟨rfl,hkB,hrB⟩
      have hrB':RdAt r g o2 cap2 (t2::ts3) wB:=by simpa using hrB
      have cd:=rdSkip r g o2 cap2 t2 ts3 [46] wB hrB' (fun hi=>(HE2.out.tail (isTk_kind hi)).ne)
      have HKB:Hid (Kept r wr wB):=hkB
      clear hkB hrB hrB'
      by_cases hd:isTk t2 [46]=true
      ·rw [hd] at cd
       rw [if_pos hd] at hT
       have hE3:=HE2.out.tail (isTk_kind hd)
       obtain ⟨t3,ts4,rfl⟩:=hE3.cons
       go_wp2_with fail
       refine cd.mono ?_
       clear cd
       rintro e' wE ⟨rfl,hkE,hrE⟩
       have hkE':Kept r wr wE:=HKB.out.trans hkE
       have hrE':RdAt r g (o2+5) (cap2-1) (t3::ts4) wE:=by simpa using hrE
       obtain ⟨pN,pz⟩:=HBLK.out wE hkE'
       have HKE:Hid (Kept r wr wE):=hkE'
       have HKW:Hid (Kept r w wE):=HK2.out.trans hkE'
       have hNlt:N<wE.heap.size:=(Array.getElem?_eq_some_iff.1 pN).1
       have HRE:Hid (RdAt r g (o2+5) (cap2-1) (t3::ts4) wE):=hrE'
       obtain ⟨n0,n1,n2,n3,n4,nf⟩:=cells5 pN
       have n0':=cell_al n0
       have n1':=cell_al n1
       have n2':=cell_al n2
       have n3':=cell_al n3
       have n4':=cell_al n4
       have HPN:Hid (wE.heap[N]?=some (.cells #[.int .i64 a2,.string b2,.int .i64 c2,.slice p2 q2 s2,.int .i64 (e.line:Int)] 40 (0,0))):=pN
       have HPZ:Hid (wE.heap[w.heap.size]?=some exZ):=pz
       have cb:∀W:World,Kept r wE W→RdAt r g (o2+5) (cap2-1) (t3::ts4) W→Calls Tryz.prog 107 #[.pointer (some ⟨r,0,none⟩)] W fun e w'=>Kept r W w'∧if t3.k=1 then e=.returned (.string (strB t3.s))∧RdAt r g (o2+5+5) (cap2-1-1) ts4 w' else e=gaveUp t3.at0:=fun W hK hR =>
        rdName r g _ _ t3 ts4 W hR (fun hk=>(hE3.tail (by omega)).ne)
       simp only [nameP,hdT_cons,List.tail_cons] at hT
       clear pN pz hrE hrE' hkE hkE' HKB HBLK HEX HEX1
       by_cases h3:t3.k=1
       ·rw [if_pos h3] at hT
        have hE4:=hE3.tail (by omega:t3.k≠0)
        have hl7:ts4.length<leftR r wr:=by rw [hleft];simp only [List.length_cons];omega
        have HT:Hid (pBehind f3 (.mk 9 t3.s 0 [e] e.line) ts4=some res):=hT
        have cu':∀W:World,Kept r wE W→RdAt r g (o2+5) (cap2-1) (t3::ts4) W→Calls Tryz.prog 107 #[.pointer (some ⟨r,0,none⟩)] W fun e' w'=>e'=.returned (.string (strB t3.s))∧w'.heap[N]?=some (.cells #[.int .i64 a2,.string b2,.int .i64 c2,.slice p2 q2 s2,.int .i64 (e.line:Int)] 40 (0,0))∧W.heap.size≤w'.heap.size∧Hid (Kept r W w'∧RdAt r g (o2+5+5) (cap2-1-1) ts4 w'):=fun W hK hR=>(cb W hK hR).mono fun e' w' h=>by
         obtain ⟨hk4,hpost⟩:=h
         rw [if_pos h3] at hpost
         obtain ⟨rfl,hrd⟩:=hpost
         exact ⟨rfl,(hk4.block N (Nat.lt_of_lt_of_le hNlt hK.size) (by omega)).trans ((hK.block N hNlt (by omega)).trans HPN.out),hk4.size,hk4,hrd⟩
        clear cb hT
        go_wp2_with fail
        go_region_with (go_at_call 107;refine (cu' _ (by first | exact Kept.drew r wE | exact ((Kept.refl r wE).alloc _).trans (Kept.drew _ _)) (by first | exact HRE.out.keep rfl rfl | exact (HRE.out.alloc _).keep rfl rfl)).mono ?_;rintro e' w7 ⟨rfl,p7,hs7,H7⟩;have hN7:N<w7.heap.size:=(Array.getElem?_eq_some_iff.1 p7).1;have p7':=(fun ob=>(Below.heap_alloc w7 ob N hN7).trans p7);obtain ⟨m0,m1,m2,m3,m4,mf⟩:=cells5 p7;have m0':=cell_al m0;have m1':=cell_al m1;have m2':=cell_al m2;have m3':=cell_al m3;have m4':=cell_al m4;have mf':=(fun ob j=>(cells5 (p7' ob)).2.2.2.2.2 j))
        all_goals (obtain ⟨hk7d,hrd7⟩:=H7.out)
        all_goals first
         | (have hk7:Kept r wE w7:=(Kept.drew r wE).trans hk7d
            obtain ⟨W,hW⟩:∃W,W=(set5 w7 N (.int .i64 9) (.string (strB t3.s)) (.int .i64 0) (.slice (some ⟨w7.heap.size,0,none⟩) 1 1) (.int .i64 (e.line:Int))).alloc (.cells #[.int .i64 a2,.string b2,.int .i64 c2,.slice p2 q2 s2,.int .i64 (e.line:Int)] 40):=⟨_,rfl⟩
            obtain ⟨hJ,hlt7⟩:=MoreJ.one (p:=fun f e ts=>pBehind f e ts) 9 t3.s hr hgw hNw hNlt HX2.out HK2.out HKE.out hk7 p7 HPZ.out hrd7 hf3 HT.out hE4 hrd7.few (.int .i64 9) rfl W hW
            have HJW:Hid (MoreJ r g N F w res (fun f e ts=>pBehind f e ts) W∧leftR r W<leftR r wr):=show _∧_<_ from ⟨hJ,by rw [hlt7];exact hl7⟩
            change Exit.inBlock _ _ _ _ ((set5 w7 N (.int .i64 9) (.string (strB t3.s)) (.int .i64 0) (.slice (some ⟨w7.heap.size,0,none⟩) 1 1) (.int .i64 (e.line:Int))).alloc (.cells #[.int .i64 a2,.string b2,.int .i64 c2,.slice p2 q2 s2,.int .i64 (e.line:Int)] 40))
            rw [←hW]
            clear hW hJ hlt7 hrd7 hk7 hk7d p7 p7' m0 m1 m2 m3 m4 mf m0' m1' m2' m3' m4' mf' n0 n1 n2 n3 n4 nf n0' n1' n2' n3' n4' cu' H7 HPN HPZ HT HKE HKW HX2 HK2 HE2 hl7 hE4 hE3 HRE
            go_wp2
            exact HJW.out)
         | (have hk7:Kept r (wE.alloc (.cells #[.int .i64 a2,.string b2,.int .i64 c2,.slice p2 q2 s2,.int .i64 (e.line:Int)] 40)) w7:=(Kept.drew r (wE.alloc (.cells #[.int .i64 a2,.string b2,.int .i64 c2,.slice p2 q2 s2,.int .i64 (e.line:Int)] 40))).trans hk7d
            obtain ⟨W,hW⟩:∃W,W=set5 w7 N (.int .i64 9) (.string (strB t3.s)) (.int .i64 0) (.slice (some ⟨wE.heap.size,0,none⟩) 1 1) (.int .i64 (e.line:Int)):=⟨_,rfl⟩
            obtain ⟨hJ,hlt7⟩:=MoreJ.one' (p:=fun f e ts=>pBehind f e ts) 9 t3.s hr hgw hNw hNlt HX2.out HK2.out HKE.out hk7 p7 HPZ.out hrd7 hf3 HT.out hE4 (.int .i64 9) rfl W hW
            have HJW:Hid (MoreJ r g N F w res (fun f e ts=>pBehind f e ts) W∧leftR r W<leftR r wr):=show _∧_<_ from ⟨hJ,by rw [hlt7];exact hl7⟩
            change Exit.inBlock _ _ _ _ (set5 w7 N (.int .i64 9) (.string (strB t3.s)) (.int .i64 0) (.slice (some ⟨wE.heap.size,0,none⟩) 1 1) (.int .i64 (e.line:Int)))
            rw [←hW]
            clear hW hJ hlt7 hrd7 hk7 hk7d p7 p7' m0 m1 m2 m3 m4 mf m0' m1' m2' m3' m4' mf' n0 n1 n2 n3 n4 nf n0' n1' n2' n3' n4' cu' H7 HPN HPZ HT HKE HKW HX2 HK2 HE2 hl7 hE4 hE3 HRE
            go_wp2
            exact HJW.out)
       ·rw [if_neg h3] at hT
        simp only [thenP,Option.some.injEq] at hT
        subst hT
        have cu':∀W:World,Kept r wE W→RdAt r g (o2+5) (cap2-1) (t3::ts4) W→Calls Tryz.prog 107 #[.pointer (some ⟨r,0,none⟩)] W fun e w'=>e=gaveUp t3.at0∧Kept r w w':=fun W hK hR=>(cb W hK hR).mono fun e w' h=>by
         obtain ⟨hk4,hpost⟩:=h
         rw [if_neg h3] at hpost
         exact ⟨hpost,HKW.out.trans (hK.trans hk4)⟩
        clear cb
        go_wp2_with fail
        go_region_dies
        all_goals
         go_wp2_with fail
         refine (cu' _ ?_ ?_).mono ?_
         ·first | exact Kept.drew r wE | exact ((Kept.refl r wE).alloc _).trans (Kept.drew _ _)
         ·first | exact HRE.out.keep rfl rfl | exact (HRE.out.alloc _).keep rfl rfl
         ·rintro e w4 ⟨rfl,hk4⟩;exact ⟨rfl,hk4,rfl⟩
      ·have hd':isTk t2 [46]=false:=by simpa using hd
       rw [hd'] at cd
       rw [if_neg hd] at hT
       simp only [Option.some.injEq] at hT
       subst hT
       go_wp2_with fail
       refine cd.mono ?_
       clear cd
       rintro e' wC ⟨rfl,hkC,hrC⟩
       obtain ⟨pN,pz,hpo⟩:=HEX.out wC (HKB.out.trans hkC) (by simpa using hrC)
       obtain ⟨n0,n1,n2,n3,n4,nf⟩:=cells5 pN
       obtain ⟨q0,q1,q2',q3,q4,qf⟩:=cells5 pz
       obtain ⟨z0,z1,z2,z3,z4⟩:=set5_cells pz (.int .i64 a2) (.string b2) (.int .i64 c2) (.slice p2 q2 s2) (.int .i64 (e.line:Int))
       have HPO:Hid (PostE r g w (.ok (e,t2::ts3)) (.returned (.agg #[.int .i64 a2,.string b2,.int .i64 c2,.slice p2 q2 s2,.int .i64 (e.line:Int)])) (set5 wC w.heap.size (.int .i64 a2) (.string b2) (.int .i64 c2) (.slice p2 q2 s2) (.int .i64 (e.line:Int)))):=hpo
       clear HEX HEX1 HX2 HK2 HE2 hpo pN pz hkC hrC HKB HBLK
       go_wp2
       exact bodyPost_ret (v:=.agg #[.int .i64 a2,.string b2,.int .i64 c2,.slice p2 q2 s2,.int .i64 (e.line:Int)]) (by simp [results,Tryz.results148,go_sem,z0,z1,z2,z3,z4]) rfl HPO.out
theorem readsE (r g:Nat) (hrl:r≠1):∀f,ReadsE r g f:=by
 intro f
 induction f with
 | zero=>exact ⟨fun _ _ _ _ _ _ h=>by simp [pBetween] at h,fun _ _ _ _ _ h=>by simp [pUnary] at h,fun _ _ _ _ _ h=>by simp [pSingle] at h,fun _ _ _ _ _ h=>by simp [pRow] at h,fun _ _ _ _ _ h=>by simp [pBrackets] at h⟩
 | succ f C =>
  refine C.next hrl (fun o cap least ts w res h hE hl h6 hp=>?_) (fun o cap ts w res h hE hl hp=>?_)
  ·refine rdBetween r g o cap f least ts w res h hE h.few hl hrl h6 hp fun w1 o1 cap1 ts1 r1 hb hE1 _ hR hK=>?_
   have:=C.between (least+1) w1 o1 cap1 ts1 r1 hb hE1 hR (hl.kept hK hrl)
   simpa using this
  ·exact rdParts r g o cap f ts w res h hE hp (fun w1 o1 cap1 ts1 r1 hb hE1 hR hK=>C.single w1 o1 cap1 ts1 r1 hb hE1 hR (hl.kept hK hrl)) fun w1 o1 cap1 ts1 r1 hb hE1 hR hK=>C.expr hrl w1 o1 cap1 ts1 r1 hb hE1 hR (hl.kept hK hrl)
structure ReadsS (r g f:Nat):Prop where
 stmt:∀w o cap ts res,pStmt f ts=some res→EndsT ts→RdAt r g o cap ts w→LevT w→Calls Tryz.prog 145 #[.pointer (some ⟨r,0,none⟩)] w (PostS r g w res)
 block:∀w o cap ts res,pBlock f ts=some res→EndsT ts→RdAt r g o cap ts w→LevT w→Calls Tryz.prog 113 #[.pointer (some ⟨r,0,none⟩)] w (PostSs r g w res)
theorem readsS (r g:Nat) (hrl:r≠1):∀f,ReadsS r g f:=by
 intro f
 induction f with
 | zero=>exact ⟨fun _ _ _ _ _ h=>by simp [pStmt] at h,fun _ _ _ _ _ h=>by simp [pBlock] at h⟩
 | succ f C =>
  refine ⟨fun w o cap ts res hp hE h hl=>?_,fun w o cap ts res hp hE h hl=>?_⟩
  ·exact rdStatement r g o cap f ts w res h hE hp (fun w1 o1 cap1 ts1 r1 hb hE1 hR hK=>(readsE r g hrl f).expr hrl w1 o1 cap1 ts1 r1 hb hE1 hR (hl.kept hK hrl)) (fun w1 o1 cap1 ts1 r1 hb hE1 hR hK=>C.block w1 o1 cap1 ts1 r1 hb hE1 hR (hl.kept hK hrl))
  ·exact rdBlock r g o cap f ts w res h hE hp (fun w1 o1 cap1 ts1 r1 hb hE1 hR hK=>C.stmt w1 o1 cap1 ts1 r1 hb hE1 hR (hl.kept hK hrl))
end Go.Proofs.YtghhamgealkodaaGreatDoor
