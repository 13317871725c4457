import Derived.Test.YtpejpbbdgblbeaaGreatDoorMC16
import Derived.Test.YtpejpbbdgblbeaaGreatDoorMC18
import Derived.Test.YtpejpbbdgblbeaaGreatDoorMC19
import Derived.Deep.RegionWith
import Derived.Deep.DeepCutAuto
import Derived.Deep.CutRange
import Derived.Test.YtpejpbbdgblbeaaGreatDoorSStatement
namespace Go.Proofs.YtpejpbbdgblbeaaGreatDoor
open Go.RowKit Go.Shelf
set_option maxHeartbeats 16000000
set_option maxRecDepth 100000
theorem zbF (r g o cap:Nat) (t:Tk) (ts:List Tk) (w:World) (h:zh r g o cap (t::ts) w) (hk:t.k=2) (hne:ts≠[]) :
  Calls Tryz.prog 180 #[.pointer (some ⟨r,0,none⟩)] w (zQ r g w (.ok (.mk 1 [] t.n [] t.line,ts))):=by
 have hr:=h.lt.1;have hgw:=h.lt.2;have h0:=h.alloc ZA;have ch:=yR r g o cap t ts _ h0;obtain ⟨w2,hw2⟩:∃w2,w2=((w.alloc ZA).alloc (yi t)).alloc (.cells #[.int .i64 2,.string (za t.s),.int .i64 t.n,.int .i64 t.line,.int .i64 t.at0] 66):=⟨_,rfl⟩;have h2:zh r g o cap (t::ts) w2:=by rw [hw2];exact (h0.alloc _).alloc _
 have k2:zc r w w2:=by rw [hw2];exact (((zc.refl r w).alloc _).alloc _).alloc _
 have n0:w2.heap[w.heap.size]?=some ZA:=by
  rw [hw2,Below.heap_alloc _ _ _ (by simp;omega),Below.heap_alloc _ _ _ (by simp)]
  exact World.alloc_heap_new _ _
 have n2:w2.heap[w.heap.size+1+1]?=some (.cells #[.int .i64 2,.string (za t.s),.int .i64 t.n,.int .i64 t.line,.int .i64 t.at0] 66):=by
  have hx:=World.alloc_heap_new ((w.alloc ZA).alloc (yi t)) (.cells #[.int .i64 2,.string (za t.s),.int .i64 t.n,.int .i64 t.line,.int .i64 t.at0] 66);rw [←hw2,show ((w.alloc ZA).alloc (yi t)).heap.size=w.heap.size+1+1 by simp] at hx
  exact hx
 have hl2:w.heap.size+1+1<w2.heap.size:=(Array.getElem?_eq_some_iff.1 n2).1;have HW2:Hid (w2=((w.alloc ZA).alloc (yi t)).alloc (.cells #[.int .i64 2,.string (za t.s),.int .i64 t.n,.int .i64 t.line,.int .i64 t.at0] 66)):=hw2;clear h h0 hw2;have cs:=VM r g o cap t ts w2 h2 hne
 go_enter Tryz.func180,Tryz.ntmps180
 go_wp2_with fail
 refine ch.mono ?_;clear ch;rintro e w1 ⟨rfl,rfl⟩;simp only [Xc];go_wp2_with fail
 rw [←HW2.out];refine cs.mono ?_;clear cs HW2;rintro e w3 ⟨rfl,hw3⟩;have k3:zc r w w3:=by rw [hw3];exact k2.setCell 0 _
 have k23:zc r w2 w3:=by rw [hw3];exact (zc.refl r w2).setCell 0 _
 have h3:zh r g (o+5) (cap-1) ts w3:=by rw [hw3];exact h2.next
 have p0:=(k23.block _ (Array.getElem?_eq_some_iff.1 n0).1 (by omega)).trans n0
 have p2:=(k23.block _ hl2 (by omega)).trans n2
 obtain ⟨c0,c1,c2,c3,c4,-⟩:=zo p2;obtain ⟨q0,q1,q2,q3,q4,qf⟩:=zo p0;obtain ⟨z0,z1,z2,z3,z4⟩:=zA p0 (.int .i64 1) (.string ⟨#[]⟩) (.int .i64 t.n) (.slice none 0 0) (.int .i64 t.line)
 have HP:Hid (zQ r g w (.ok (.mk 1 [] t.n [] t.line,ts)) (.returned (.agg #[.int .i64 1,(.string ⟨#[]⟩),(.int .i64 t.n),.slice none 0 0,.int .i64 t.line])) (set5 w3 w.heap.size (.int .i64 1) (.string ⟨#[]⟩) (.int .i64 t.n) (.slice none 0 0) (.int .i64 t.line))) :=
  zQ.of_set5 (B:=w.heap.size+1) 1 [] t.n t.line k3 (Nat.le_refl _) hr hgw (.inl ⟨rfl,rfl⟩) (Nat.lt_succ_self _) h3
 clear k3 k23 h3 p0 p2 n0 n2 h2 k2 hw3;go_wp2
 exact bodyPost_ret (v:=.agg #[.int .i64 1,(.string ⟨#[]⟩),(.int .i64 t.n),.slice none 0 0,.int .i64 t.line]) (by simp [results,Tryz.results180,go_sem,z0,z1,z2,z3,z4]) rfl HP.out
theorem zbG (r g o cap:Nat) (t:Tk) (ts:List Tk) (w:World) (h:zh r g o cap (t::ts) w) (hk:t.k=3) (hne:ts≠[]) :
  Calls Tryz.prog 180 #[.pointer (some ⟨r,0,none⟩)] w (zQ r g w (.ok (.mk 3 t.s 0 [] t.line,ts))):=by
 have hr:=h.lt.1;have hgw:=h.lt.2;have h0:=h.alloc ZA;have ch:=yR r g o cap t ts _ h0;obtain ⟨w2,hw2⟩:∃w2,w2=((w.alloc ZA).alloc (yi t)).alloc (.cells #[.int .i64 3,.string (za t.s),.int .i64 t.n,.int .i64 t.line,.int .i64 t.at0] 66):=⟨_,rfl⟩;have h2:zh r g o cap (t::ts) w2:=by rw [hw2];exact (h0.alloc _).alloc _
 have k2:zc r w w2:=by rw [hw2];exact (((zc.refl r w).alloc _).alloc _).alloc _
 have n0:w2.heap[w.heap.size]?=some ZA:=by
  rw [hw2,Below.heap_alloc _ _ _ (by simp;omega),Below.heap_alloc _ _ _ (by simp)]
  exact World.alloc_heap_new _ _
 have n2:w2.heap[w.heap.size+1+1]?=some (.cells #[.int .i64 3,.string (za t.s),.int .i64 t.n,.int .i64 t.line,.int .i64 t.at0] 66):=by
  have hx:=World.alloc_heap_new ((w.alloc ZA).alloc (yi t)) (.cells #[.int .i64 3,.string (za t.s),.int .i64 t.n,.int .i64 t.line,.int .i64 t.at0] 66);rw [←hw2,show ((w.alloc ZA).alloc (yi t)).heap.size=w.heap.size+1+1 by simp] at hx
  exact hx
 have hl2:w.heap.size+1+1<w2.heap.size:=(Array.getElem?_eq_some_iff.1 n2).1;have HW2:Hid (w2=((w.alloc ZA).alloc (yi t)).alloc (.cells #[.int .i64 3,.string (za t.s),.int .i64 t.n,.int .i64 t.line,.int .i64 t.at0] 66)):=hw2;clear h h0 hw2;have cs:=VM r g o cap t ts w2 h2 hne
 go_enter Tryz.func180,Tryz.ntmps180
 go_wp2_with fail
 refine ch.mono ?_;clear ch;rintro e w1 ⟨rfl,rfl⟩;simp only [Xc];go_wp2_with fail
 rw [←HW2.out];refine cs.mono ?_;clear cs HW2;rintro e w3 ⟨rfl,hw3⟩;have k3:zc r w w3:=by rw [hw3];exact k2.setCell 0 _
 have k23:zc r w2 w3:=by rw [hw3];exact (zc.refl r w2).setCell 0 _
 have h3:zh r g (o+5) (cap-1) ts w3:=by rw [hw3];exact h2.next
 have p0:=(k23.block _ (Array.getElem?_eq_some_iff.1 n0).1 (by omega)).trans n0
 have p2:=(k23.block _ hl2 (by omega)).trans n2
 obtain ⟨c0,c1,c2,c3,c4,-⟩:=zo p2;obtain ⟨q0,q1,q2,q3,q4,qf⟩:=zo p0;obtain ⟨z0,z1,z2,z3,z4⟩:=zA p0 (.int .i64 3) (.string (za t.s)) (.int .i64 0) (.slice none 0 0) (.int .i64 t.line)
 have HP:Hid (zQ r g w (.ok (.mk 3 t.s 0 [] t.line,ts)) (.returned (.agg #[.int .i64 3,(.string (za t.s)),(.int .i64 0),.slice none 0 0,.int .i64 t.line])) (set5 w3 w.heap.size (.int .i64 3) (.string (za t.s)) (.int .i64 0) (.slice none 0 0) (.int .i64 t.line))) :=
  zQ.of_set5 (B:=w.heap.size+1) 3 t.s 0 t.line k3 (Nat.le_refl _) hr hgw (.inl ⟨rfl,rfl⟩) (Nat.lt_succ_self _) h3
 clear k3 k23 h3 p0 p2 n0 n2 h2 k2 hw3;go_wp2
 exact bodyPost_ret (v:=.agg #[.int .i64 3,(.string (za t.s)),(.int .i64 0),.slice none 0 0,.int .i64 t.line]) (by simp [results,Tryz.results180,go_sem,z0,z1,z2,z3,z4]) rfl HP.out
theorem zaD (r g o cap:Nat) (t:Tk) (ts:List Tk) (w:World) (res:PR Ex) (h:zh r g o cap (t::ts) w) (hk:t.k=1)
  (hn:∀w1,zh r g o cap (t::ts) w1→zc r w w1→Calls Tryz.prog 194 #[.pointer (some ⟨r,0,none⟩)] w1 (zQ r g w1 res)) :
  Calls Tryz.prog 180 #[.pointer (some ⟨r,0,none⟩)] w (zQ r g w res):=by
 have hr:=h.lt.1;have hgw:=h.lt.2;have h0:=h.alloc ZA;have ch:=yR r g o cap t ts _ h0;obtain ⟨w2,hw2⟩:∃w2,w2=((w.alloc ZA).alloc (yi t)).alloc (.cells #[.int .i64 1,.string (za t.s),.int .i64 t.n,.int .i64 t.line,.int .i64 t.at0] 66):=⟨_,rfl⟩;have h2:zh r g o cap (t::ts) w2:=by rw [hw2];exact (h0.alloc _).alloc _
 have k2:zc r w w2:=by rw [hw2];exact (((zc.refl r w).alloc _).alloc _).alloc _
 have n0:w2.heap[w.heap.size]?=some ZA:=by
  rw [hw2,Below.heap_alloc _ _ _ (by simp;omega),Below.heap_alloc _ _ _ (by simp)]
  exact World.alloc_heap_new _ _
 have n2:w2.heap[w.heap.size+1+1]?=some (.cells #[.int .i64 1,.string (za t.s),.int .i64 t.n,.int .i64 t.line,.int .i64 t.at0] 66):=by
  have hx:=World.alloc_heap_new ((w.alloc ZA).alloc (yi t)) (.cells #[.int .i64 1,.string (za t.s),.int .i64 t.n,.int .i64 t.line,.int .i64 t.at0] 66);rw [←hw2,show ((w.alloc ZA).alloc (yi t)).heap.size=w.heap.size+1+1 by simp] at hx
  exact hx
 have hl2:w.heap.size+1+1<w2.heap.size:=(Array.getElem?_eq_some_iff.1 n2).1;have HW2:Hid (w2=((w.alloc ZA).alloc (yi t)).alloc (.cells #[.int .i64 1,.string (za t.s),.int .i64 t.n,.int .i64 t.line,.int .i64 t.at0] 66)):=hw2;clear h h0 hw2;have cs:=hn w2 h2 k2;clear hn
 go_enter Tryz.func180,Tryz.ntmps180
 go_wp2_with fail
 refine ch.mono ?_;clear ch;rintro e w1 ⟨rfl,rfl⟩;simp only [Xc];go_wp2_with fail
 rw [←HW2.out];refine cs.mono ?_;clear cs HW2;rintro e w3 ⟨hk3,hpost⟩;have k3:zc r w w3:=k2.trans hk3;rcases res with a | ⟨x,us⟩
 ·obtain rfl:=hpost
  exact ⟨rfl,k3,rfl⟩
 ·obtain ⟨v,o3,cap3,rfl,hx,hrd⟩:=hpost
  obtain ⟨a,b,c,d0,d1,d2,l,rfl⟩:=hx.agg;have p0:=(hk3.block _ (Array.getElem?_eq_some_iff.1 n0).1 (by omega)).trans n0
  obtain ⟨q0,q1,q2,q3,q4,qf⟩:=zo p0;obtain ⟨z0,z1,z2,z3,z4⟩:=zA p0 (.int .i64 a) (.string b) (.int .i64 c) (.slice d0 d1 d2) (.int .i64 l)
  have HP:Hid (zQ r g w (.ok (x,us)) (.returned (.agg #[.int .i64 a,.string b,.int .i64 c,.slice d0 d1 d2,.int .i64 l])) (set5 w3 w.heap.size (.int .i64 a) (.string b) (.int .i64 c) (.slice d0 d1 d2) (.int .i64 l))) :=
   zQ.of_set5' k3 (Nat.le_refl _) hr hgw hx (by omega) hrd
  clear k3 hk3 p0 n0 n2 h2 k2 hx hrd;go_wp2
  exact bodyPost_ret (v:=.agg #[.int .i64 a,.string b,.int .i64 c,.slice d0 d1 d2,.int .i64 l]) (by simp [results,Tryz.results180,go_sem,z0,z1,z2,z3,z4]) rfl HP.out
structure Ua (r g f:Nat):Prop where
 between:∀least w o cap ts res,zk f least ts=some res→zj ts→zh r g o cap ts w→ZS w→Calls Tryz.prog 86 #[.pointer (some ⟨r,0,none⟩),.int .i64 (least:Nat)] w (zQ r g w res)
 unary:∀w o cap ts res,ZP f ts=some res→zj ts→zh r g o cap ts w→ZS w→Calls Tryz.prog 125 #[.pointer (some ⟨r,0,none⟩)] w (zQ r g w res)
 single:∀w o cap ts res,Za f ts=some res→zj ts→zh r g o cap ts w→ZS w→Calls Tryz.prog 180 #[.pointer (some ⟨r,0,none⟩)] w (zQ r g w res)
 row:∀w o cap ts res,Yh f [] ts=some res→zj ts→zh r g o cap ts w→ZS w→Calls Tryz.prog 196 #[.pointer (some ⟨r,0,none⟩),.func (.func 44) #[.pointer (some ⟨r,0,none⟩)] #[]] w (Vz r g w res)
 brackets:∀w o cap ts res,zR f ts=some res→zj ts→zh r g o cap ts w→ZS w→Calls Tryz.prog 195 #[.pointer (some ⟨r,0,none⟩),.func (.func 44) #[.pointer (some ⟨r,0,none⟩)] #[]] w (Vz r g w res)
theorem Ua.expr {r g f:Nat} (C:Ua r g f) (hrl:r≠1) (w:World) (o cap:Nat) (ts:List Tk) (res:PR Ex) (hp:zk f 1 ts=some res) (hE:zj ts) (h:zh r g o cap ts w) (hl:ZS w) :
  Calls Tryz.prog 44 #[.pointer (some ⟨r,0,none⟩)] w (zQ r g w res):=by
 obtain ⟨t,us,rfl⟩:=hE.cons;exact zhy r g w res h.lt.1 h.lt.2 (C.between 1 _ o cap _ res hp hE (h.alloc _) (hl.kept ((zc.refl r w).alloc _) hrl))
theorem xF {α β:Type} {x:Option (PR α)} {k:α→List Tk→Option (PR β)} {r:PR β} (h:zq x k=some r):∃r1,x=some r1:=by
 cases x with
 | none=>cases h
 | some r1=>exact ⟨r1,rfl⟩
theorem Ua.next {r g f:Nat} (hrl:r≠1) (C:Ua r g f)
  (HB:∀o cap least ts w res,zh r g o cap ts w→zj ts→ZS w→least≤6→zk (f+1) least ts=some res→Calls Tryz.prog 86 #[.pointer (some ⟨r,0,none⟩),.int .i64 (least:Nat)] w (zQ r g w res))
  (HW:∀o cap ts w res,zh r g o cap ts w→zj ts→ZS w→zq (Za f ts) (fun e ts=>zN f e ts)=some res→Calls Tryz.prog 148 #[.pointer (some ⟨r,0,none⟩)] w (zQ r g w res)):Ua r g (f+1) where
 between:=fun least w o cap ts res hp hE h hl=>by
  by_cases h6:6<least
  ·obtain ⟨t,us,rfl⟩:=hE.cons
   rw [zk,if_pos h6] at hp;exact zcH r g least w res h.lt.1 h.lt.2 h6 (C.unary _ o cap _ res hp hE (h.alloc _) (hl.kept ((zc.refl r w).alloc _) hrl))
  ·exact HB o cap least ts w res h hE hl (by omega) hp
 unary:=fun w o cap ts res hp hE h hl=>by
  obtain ⟨t,us,rfl⟩:=hE.cons;rw [ZP] at hp;simp only [zI,List.tail_cons] at hp
  by_cases hs:t.k=4∧(t.s=[45]∨t.s=[33])
  ·rw [if_pos hs] at hp
   obtain ⟨r1,h1⟩:=xF hp;have hE1:=hE.tail (by omega:t.k≠0)
   have hc:=zas r g o cap t us w r1 h hE hs.1 (by simpa using hs.2) fun w1 o1 cap1 hR hK=>C.unary w1 o1 cap1 us r1 h1 hE1 hR (hl.kept hK hrl)
   have hr:qd t r1=res:=by
    rw [h1] at hp;rcases r1 with a | ⟨x,vs⟩ <;> simpa [zq,qd] using hp
   rw [←hr];exact hc
  ·rw [if_neg hs] at hp
   exact zbm r g o cap t us w res h hs fun w1 hR hK=>HW o cap _ w1 res hR hE (hl.kept hK hrl) hp
 row:=fun w o cap ts res hp hE h hl=>zim r g o cap f ts w res h hE h.few hp fun w1 o1 cap1 ts1 r1 hb hE1 _ hR hK=>C.expr hrl w1 o1 cap1 ts1 r1 hb hE1 hR (hl.kept hK hrl)
 brackets:=fun w o cap ts res hp hE h hl=>by
  obtain ⟨t,us,rfl⟩:=hE.cons;rw [zR] at hp;simp only [Zf,zI,List.tail_cons] at hp
  by_cases hi:zn t [40]=true
  ·rw [if_pos hi] at hp
   simp only [zq] at hp;have hE1:=hE.tail (zl hi)
   by_cases hj:zn (zx us) [41]=true
   ·rw [if_pos hj] at hp
    have hr:Y7 t us (.error 0)=res:=by unfold Y7;rw [if_pos hi,if_pos hj];simpa using hp
    rw [←hr];exact VT r g o cap _ t us w (.error 0) h hE (fun _ _ h=>by cases h) fun _ hj'=>by rw [hj] at hj';cases hj'
   ·rw [if_neg hj] at hp
    change zq (Yh f [] us) _=some res at hp
    obtain ⟨r1,h1⟩:=xF hp
    have hr:Y7 t us r1=res:=by
     unfold Y7
     rw [if_pos hi,if_neg hj];rw [h1] at hp;rcases r1 with a | ⟨l,vs⟩
     ·simpa [zq] using hp
     ·simp only [zq] at hp
      by_cases hk:zn (zx vs) [41]=true
      ·simpa [hk] using hp
      ·simpa [hk] using hp
    rw [←hr];exact VT r g o cap _ t us w r1 h hE (fun l vs he=>by subst he;exact (ZF f).2.2.2.2.2.1 _ _ _ _ h1 hE1) fun _ _ w1 o1 cap1 hR hK=>C.row w1 o1 cap1 us r1 h1 hE1 hR (hl.kept hK hrl)
  ·rw [if_neg hi] at hp
   have hr:Y7 t us (.error 0)=res:=by unfold Y7;rw [if_neg hi];exact Option.some.inj hp
   rw [←hr];exact VT r g o cap _ t us w (.error 0) h hE (fun _ _ h=>by cases h) fun hi'=>absurd hi' hi
 single:=fun w o cap ts res hp hE h hl=>by
  obtain ⟨t,us,rfl⟩:=hE.cons;rw [Za] at hp;simp only [zI,List.tail_cons] at hp
  by_cases h2:t.k=2
  ·rw [if_pos h2] at hp
   simp only [Option.some.injEq] at hp;subst hp;exact zbF r g o cap t us w h h2 (hE.tail (by omega)).ne
  ·rw [if_neg h2] at hp
   by_cases h3:t.k=3
   ·rw [if_pos h3] at hp
    simp only [Option.some.injEq] at hp;subst hp;exact zbG r g o cap t us w h h3 (hE.tail (by omega)).ne
   ·rw [if_neg h3] at hp
    by_cases h1:t.k=1
    ·rw [if_pos h1] at hp
     have hE1:=hE.tail (by omega:t.k≠0)
     obtain ⟨u,vs,rfl⟩:=hE1.cons;refine zaD r g o cap t (u::vs) w res h h1 fun w1 hR hK=>?_
     simp only [zI] at hp
     by_cases hi:zn u [40]=true
     ·rw [if_pos hi] at hp
      obtain ⟨r1,hb⟩:=xF hp
      have hr:zdD t r1=res:=by
       rw [hb] at hp;rcases r1 with a | ⟨l,xs⟩ <;> simpa [zq,zdD] using hp
      rw [←hr];exact zcG r g o cap t u vs w1 r1 hR h1 hi fun w2 o2 cap2 hR2 hK2=>C.brackets w2 o2 cap2 _ r1 hb hE1 hR2 ((hl.kept hK hrl).kept hK2 hrl)
     ·rw [if_neg hi] at hp
      simp only [Option.some.injEq] at hp;subst hp;exact zbl r g o cap t u vs w1 hR h1 (by simpa using hi)
    ·rw [if_neg h1] at hp
     by_cases hT:zn t [116,114,117,101]=true
     ·rw [if_pos hT] at hp
      simp only [Option.some.injEq] at hp;subst hp;exact zat r g o cap t us w hT h hE h1 h2 h3
     ·rw [if_neg hT] at hp
      have hT':zn t [116,114,117,101]=false:=by simpa using hT
      by_cases hF:zn t [102,97,108,115,101]=true
      ·rw [if_pos hF] at hp
       simp only [Option.some.injEq] at hp;subst hp;exact Qh r g o cap t us w hF h hE h1 h2 h3 hT'
      ·rw [if_neg hF] at hp
       have hF':zn t [102,97,108,115,101]=false:=by simpa using hF
       by_cases hN:zn t [110,101,119]=true
       ·rw [if_pos hN] at hp
        have hE1:=hE.tail (zl hN);obtain ⟨u,vs,rfl⟩:=hE1.cons;simp only [Yg,zI,List.tail_cons] at hp
        by_cases hk:u.k=1
        ·rw [if_pos hk] at hp
         change zq (zR f vs) _=some res at hp
         obtain ⟨r1,hb⟩:=xF hp
         have hr:zau t u r1=res:=by
          unfold zau
          rw [if_pos hk];rw [hb] at hp;rcases r1 with a | ⟨l,xs⟩ <;> simpa [zq] using hp
         rw [←hr];exact Up r g o cap t u vs w r1 hN (fun _ w2 o2 cap2 hR2 hK2=>C.brackets w2 o2 cap2 _ r1 hb (hE1.tail (by omega)) hR2 (hl.kept hK2 hrl)) h hE h1 h2 h3 hT' hF'
        ·rw [if_neg hk] at hp
         have hr:zau t u (.error 0)=res:=by unfold zau;rw [if_neg hk];simpa [zq] using hp
         rw [←hr];exact Up r g o cap t u vs w (.error 0) hN (fun hk'=>absurd hk' hk) h hE h1 h2 h3 hT' hF'
       ·rw [if_neg hN] at hp
        have hN':zn t [110,101,119]=false:=by simpa using hN
        by_cases hA:zn t [91]=true
        ·rw [if_pos hA] at hp
         have hE1:=hE.tail (zl hA);obtain ⟨r1,hb⟩:=xF hp
         have hr:VU t r1=res:=by
          unfold VU
          rw [hb] at hp;rcases r1 with a | ⟨l,xs⟩
          ·simpa [zq] using hp
          ·simp only [zq,Zf] at hp
           by_cases hk:zn (zx xs) [93]=true
           ·simpa [hk] using hp
           ·simpa [hk] using hp
         rw [←hr];exact Qi r g o cap t us w r1 hA (fun l xs he=>by subst he;exact (ZF f).2.2.2.2.2.1 _ _ _ _ hb hE1) (fun w2 o2 cap2 hR2 hK2=>C.row w2 o2 cap2 _ r1 hb hE1 hR2 (hl.kept hK2 hrl)) h hE h1 h2 h3 hT' hF' hN'
        ·rw [if_neg hA] at hp
         have hA':zn t [91]=false:=by simpa using hA
         simp only [Zf,zI,List.tail_cons] at hp
         by_cases hP:zn t [40]=true
         ·rw [if_pos hP] at hp
          change zq (zk f 1 us) _=some res at hp
          have hE1:=hE.tail (zl hP);obtain ⟨r1,hb⟩:=xF hp
          have hr:XR t r1=res:=by
           unfold XR
           rw [if_pos hP];rw [hb] at hp;rcases r1 with a | ⟨l,xs⟩
           ·simpa [zq] using hp
           ·simp only [zq] at hp
            by_cases hk:zn (zx xs) [41]=true
            ·simpa [hk] using hp
            ·simpa [hk] using hp
          rw [←hr];exact VA r g o cap t us w r1 (fun l xs he=>by subst he;exact (ZF f).1 _ _ _ _ hb hE1) (fun _ w2 o2 cap2 hR2 hK2=>C.expr hrl w2 o2 cap2 _ r1 hb hE1 hR2 (hl.kept hK2 hrl)) h hE h1 h2 h3 hT' hF' hN' hA'
         ·rw [if_neg hP] at hp
          have hr:XR t (.error 0)=res:=by unfold XR;rw [if_neg hP];simpa [zq] using hp
          rw [←hr];exact VA r g o cap t us w (.error 0) (fun _ _ h=>by cases h) (fun hP'=>absurd hP' hP) h hE h1 h2 h3 hT' hF' hN' hA'
def qs (f:Nat) (e:Ex) (ts:List Tk):Option (PR Ex):=zq (Zf [93] ts) fun _ ts=>zN f e ts
theorem zgY (r g o cap F:Nat) (ts:List Tk) (w:World) (res:PR Ex) (h:zh r g o cap ts w) (hE:zj ts) (hp:zq (Za F ts) (fun e ts=>zN F e ts)=some res)
  (hsg:∀w1 o1 cap1 ts1 r1,Za F ts1=some r1→zj ts1→zh r g o1 cap1 ts1 w1→zc r w w1→Calls Tryz.prog 180 #[.pointer (some ⟨r,0,none⟩)] w1 (zQ r g w1 r1))
  (hex:∀w1 o1 cap1 ts1 r1,zk F 1 ts1=some r1→zj ts1→zh r g o1 cap1 ts1 w1→zc r w w1→Calls Tryz.prog 44 #[.pointer (some ⟨r,0,none⟩)] w1 (zQ r g w1 r1)) :
  Calls Tryz.prog 148 #[.pointer (some ⟨r,0,none⟩)] w (zQ r g w res):=by
 obtain ⟨t0,ts0,rfl⟩:=hE.cons;have hr:=h.lt.1;have hgw:=h.lt.2;cases hb:Za F (t0::ts0) with
 | none=>rw [hb] at hp;cases hp
 | some r1 =>
  obtain ⟨w0,hw0⟩:∃w0,w0=w.alloc ZA:=⟨_,rfl⟩;have c1:=hsg w0 o cap (t0::ts0) r1 hb hE (by rw [hw0];exact h.alloc _) (by rw [hw0];exact (zc.refl r w).alloc _)
  rw [hb] at hp;simp only [zq] at hp;have HW0:Hid (w0=w.alloc ZA):=hw0;have HEX1:Hid (∀w1 o1 cap1 ts1 r1,zk F 1 ts1=some r1→zj ts1→zh r g o1 cap1 ts1 w1→zc r w w1→Calls Tryz.prog 44 #[.pointer (some ⟨r,0,none⟩)] w1 (zQ r g w1 r1)):=hex;clear hw0 hex hsg
  go_enter Tryz.func148,Tryz.ntmps148
  go_wp2_with fail
  rw [←HW0.out];refine c1.mono ?_;clear c1;rintro e w1 ⟨hk1,hpost⟩;have hkk:zc r w w1:=by have:=HW0.out;subst this;exact ((zc.refl r w).alloc _).trans hk1
  rcases r1 with a | ⟨x,us⟩
  ·obtain rfl:=hpost
   simp only [Option.some.injEq] at hp;subst hp;exact ⟨rfl,hkk,rfl⟩
  ·obtain ⟨v,o1,cap1,rfl,hx,hrd⟩:=hpost
   obtain ⟨a,b,c,d0,d1,d2,l,rfl⟩:=hx.agg;have hE1:=(ZF F).2.2.2.2.1 _ _ _ hb hE;have hJ:=yB.start (p:=fun f e ts=>zN f e ts) (res:=res) HW0.out hr hk1 hx hrd hp hE1 hrd.few
   have HJ:Hid (yB r g w1.heap.size F w res (fun f e ts=>zN f e ts) (w1.alloc (.cells #[.int .i64 a,.string b,.int .i64 c,.slice d0 d1 d2,.int .i64 l] 45))):=hJ
   have hNw:w.heap.size<w1.heap.size:=by have:=hk1.size;have h2:=HW0.out;subst h2;simp at this;omega
   obtain ⟨N,hNe⟩:∃N,N=w1.heap.size:=⟨_,rfl⟩;rw [←hNe] at HJ hNw;clear hJ hx hrd hk1 hE1 hp hb hE h hkk HW0;go_wp2_with fail
   rw [←hNe];generalize hW0:w1.alloc (.cells #[.int .i64 a,.string b,.int .i64 c,.slice d0 d1 d2,.int .i64 l] 45)=W0 at *;clear hW0 hNe
   go_loopw [7] (fun _ wr=>yB r g N F w res (fun f e ts=>zN f e ts) wr) (fun _ wr=>yu r wr)
   case atStart=>exact HJ.out
   case round =>
    obtain ⟨e,ts2,o2,cap2,f2,a2,b2,c2,p2,q2,s2,l2,hf2,hT,hE2,hN2,hblk,hx2,hrd2,hk2,hz2⟩:=hrel;obtain ⟨t2,ts3,rfl⟩:=hE2.cons;obtain rfl:l2=(e.line:Int):=hx2.line_eq;clear HJ;have cs:=ZL r g o2 cap2 t2 ts3 [91] wr hrd2 (fun hi=>(hE2.tail (zl hi)).ne)
    have hleft:=hrd2.left
    have HEX:Hid (∀W,zc r wr W→zh r g o2 cap2 (t2::ts3) W→W.heap[N]?=some (.cells #[.int .i64 a2,.string b2,.int .i64 c2,.slice p2 q2 s2,.int .i64 (e.line:Int)] 45 (0,0))∧W.heap[w.heap.size]?=some ZA ∧
     zQ r g w (.ok (e,t2::ts3)) (.returned (.agg #[.int .i64 a2,.string b2,.int .i64 c2,.slice p2 q2 s2,.int .i64 (e.line:Int)])) (set5 W w.heap.size (.int .i64 a2) (.string b2) (.int .i64 c2) (.slice p2 q2 s2) (.int .i64 (e.line:Int)))) :=
     fun W hK hrd=>yB.leave hr hgw hNw hk2 hblk hz2 hx2 hK hrd
    have HBLK:Hid (∀W,zc r wr W→W.heap[N]?=some (.cells #[.int .i64 a2,.string b2,.int .i64 c2,.slice p2 q2 s2,.int .i64 (e.line:Int)] 45 (0,0))∧W.heap[w.heap.size]?=some ZA) :=
     fun W hK=>⟨(hK.block _ (Array.getElem?_eq_some_iff.1 hblk).1 (by omega)).trans hblk,(hK.block _ (Array.getElem?_eq_some_iff.1 hz2).1 (by omega)).trans hz2⟩
    have HX2:Hid (zY (fun k=>w.heap.size<k∧k≠N) wr e (.agg #[.int .i64 a2,.string b2,.int .i64 c2,.slice p2 q2 s2,.int .i64 (e.line:Int)])):=hx2
    have HK2:Hid (zc r w wr):=hk2;have HE2:Hid (zj (t2::ts3)):=hE2;cases f2 with
    | zero=>simp [zN] at hT
    | succ f3 =>
     have hf3:f3≤F:=by omega
     simp only [zN,zI,List.tail_cons] at hT;clear hx2 hk2 hrd2 hE2 hblk hz2
     by_cases hi:zn t2 [91]=true
     ·rw [hi] at cs
      rw [if_pos hi] at hT;have hE3:=HE2.out.tail (zl hi);go_wp2_with fail
      refine cs.mono ?_;clear cs;rintro e' wE ⟨rfl,hkE,hrE⟩;simp only [if_true] at hrE;obtain ⟨pN,pz⟩:=HBLK.out wE hkE;have HKE:Hid (zc r wr wE):=hkE;have HKW:Hid (zc r w wE):=HK2.out.trans hkE;have hNlt:N<wE.heap.size:=(Array.getElem?_eq_some_iff.1 pN).1;cases hb3:zk f3 1 ts3 with
      | none=>rw [hb3] at hT;cases hT
      | some r3 =>
       rw [hb3] at hT;simp only [zq] at hT
       have hb4:zk F 1 ts3=some r3:=by
        have:=xL (k:=F-f3) hb3
        rwa [show f3+(F-f3)=F by omega] at this
       have cb:∀W:World,W.heap=wE.heap→W.os=wE.os→W.tape=wE.tape→W.output=wE.output→Calls Tryz.prog 44 #[.pointer (some ⟨r,0,none⟩)] W fun e w'=>zc r wE w'∧zQ r g W r3 e w':=fun W e1 e2 e3 e4 =>
        (HEX1.out W _ _ ts3 r3 hb4 hE3 (hrE.keep (by rw [e1]) (by rw [e1])) ⟨e2.trans HKW.out.os,e3.trans HKW.out.tape,e4.trans HKW.out.output,by rw [e1];exact HKW.out.size,fun k hk hr=>by rw [e1];exact HKW.out.block k hk hr⟩).mono fun e w' h =>
         ⟨⟨h.1.os.trans e2,h.1.tape.trans e3,h.1.output.trans e4,by rw [←e1];exact h.1.size,fun k hk hr=>by rw [←e1];exact h.1.block k (by rw [e1];exact hk) hr⟩,h⟩
       obtain ⟨n0,n1,n2,n3,n4,nf⟩:=zo pN;have HPN:Hid (wE.heap[N]?=some (.cells #[.int .i64 a2,.string b2,.int .i64 c2,.slice p2 q2 s2,.int .i64 (e.line:Int)] 45 (0,0))):=pN;have HPZ:Hid (wE.heap[w.heap.size]?=some ZA):=pz;clear pN pz hrE hkE HEX1 HBLK HEX;rcases r3 with a3 | ⟨x3,us3⟩
       ·simp only [Option.some.injEq] at hT
        subst hT;have cu':∀W:World,W.heap=wE.heap→W.os=wE.os→W.tape=wE.tape→W.output=wE.output→Calls Tryz.prog 44 #[.pointer (some ⟨r,0,none⟩)] W fun e w'=>e=Z2 a3∧zc r w w':=fun W e1 e2 e3 e4=>(cb W e1 e2 e3 e4).mono fun e w' h=>⟨h.2.2,HKW.out.trans h.1⟩
        clear cb;go_wp2_with fail
        go_region_dies
        all_goals (go_wp2_with fail;refine (cu' _ (by rfl) (by rfl) (by rfl) (by rfl)).mono ?_;rintro e w4 ⟨rfl,hk4⟩;exact ⟨rfl,hk4,rfl⟩)
       ·have hE5:=(ZF F).1 _ _ _ _ hb4 hE3
        have hl5:=xj hb4;have hl7:us3.length<yu r wr:=by rw [hleft];simp only [List.length_cons];omega
        have HT:Hid (qs f3 (.mk 8 [] 0 [e,x3] e.line) us3=some res):=hT
        have cu':∀W:World,W.heap=wE.heap→W.os=wE.os→W.tape=wE.tape→W.output=wE.output→Calls Tryz.prog 44 #[.pointer (some ⟨r,0,none⟩)] W fun e' w'=>∃(a3:Int) (b3:ByteArray) (c3:Int) (u0:Option Addr) (u1 u2:Nat) (l3:Int),e'=.returned (.agg #[.int .i64 a3,.string b3,.int .i64 c3,.slice u0 u1 u2,.int .i64 l3]) ∧
          w'.heap[N]?=some (.cells #[.int .i64 a2,.string b2,.int .i64 c2,.slice p2 q2 s2,.int .i64 (e.line:Int)] 45 (0,0))∧Hid (zc r wE w'∧ZO wE.heap.size w' x3 (.agg #[.int .i64 a3,.string b3,.int .i64 c3,.slice u0 u1 u2,.int .i64 l3])∧∃o cap,zh r g o cap us3 w'):=fun W e1 e2 e3 e4=>(cb W e1 e2 e3 e4).mono fun e' w' h=>by
         obtain ⟨hk4,-,v,o4,cap4,rfl,hx,hrd⟩:=h;obtain ⟨a3,b3,c3,u0,u1,u2,l3,rfl⟩:=hx.agg;exact ⟨a3,b3,c3,u0,u1,u2,l3,rfl,(hk4.block N hNlt (by omega)).trans HPN.out,hk4,(by rw [←e1];exact hx:ZO wE.heap.size w' x3 _),o4,cap4,hrd⟩
        clear cb hT;go_wp2_with fail
        go_cut [] from 6 to 28 (fun wx=>yB r g N F w res qs wx∧yu r wx<yu r wr)
        case first =>
         go_region_with (go_at_call 44;refine (cu' _ (by rfl) (by rfl) (by rfl) (by rfl)).mono ?_;rintro e' w7 ⟨a3,b3,c3,u0,u1,u2,l3,rfl,p7,H7⟩;have hN7:N<w7.heap.size:=(Array.getElem?_eq_some_iff.1 p7).1;have p7':=(fun ob=>(Below.heap_alloc w7 ob N hN7).trans p7);obtain ⟨m0,m1,m2,m3,m4,mf⟩:=zo p7;have m0':=ze m0;have m1':=ze m1;have m2':=ze m2;have m3':=ze m3;have m4':=ze m4;have mf':=(fun ob j=>(zo (p7' ob)).2.2.2.2.2 j))
         all_goals
          obtain ⟨hk7,hx7,o7,cap7,hrd7⟩:=H7.out;obtain ⟨W,hW⟩:∃W,W=(set5 w7 N (.int .i64 8) (.string ⟨#[]⟩) (.int .i64 0) (.slice (some ⟨w7.heap.size,0,none⟩) 2 2) (.int .i64 (e.line:Int))).alloc (.cells #[.int .i64 a2,.string b2,.int .i64 c2,.slice p2 q2 s2,.int .i64 (e.line:Int),.int .i64 a3,.string b3,.int .i64 c3,.slice u0 u1 u2,.int .i64 l3] 45):=⟨_,rfl⟩;obtain ⟨hJ,hlt7⟩:=yB.two (p:=qs) 8 [] hr hgw hNw hNlt HX2.out HK2.out HKE.out hk7 p7 HPZ.out hx7 hrd7 hf3 HT.out hE5 hrd7.few (.int .i64 8) rfl W hW;have HJW:Hid (yB r g N F w res qs W∧yu r W<yu r wr):=show _∧_<_ from ⟨hJ,by rw [hlt7];exact hl7⟩
          change Exit.then _ _ _ _ ((set5 w7 N (.int .i64 8) (.string ⟨#[]⟩) (.int .i64 0) (.slice (some ⟨w7.heap.size,0,none⟩) 2 2) (.int .i64 (e.line:Int))).alloc (.cells #[.int .i64 a2,.string b2,.int .i64 c2,.slice p2 q2 s2,.int .i64 (e.line:Int),.int .i64 a3,.string b3,.int .i64 c3,.slice u0 u1 u2,.int .i64 l3] 45))
          rw [←hW];clear hW hJ hlt7 hrd7 hx7 hk7 p7 p7' m0 m1 m2 m3 m4 mf m0' m1' m2' m3' m4' mf' n0 n1 n2 n3 n4 nf cu' H7 HPN HPZ HT HKE HKW HX2 HK2 HE2 hl5 hl7 hE5 hE3;go_wp2_with fail
          go_meet
          exact HJW.out
        case rest =>
         obtain ⟨⟨e5,ts5,o5,cap5,f5,a5,b5,c5,p5,q5,s5,l5,hf5,hT5,hE6,hN5,hblk5,hx5,hrd5,hk5,hz5⟩,hlt⟩:=hcut;obtain ⟨t5,ts6,rfl⟩:=hE6.cons;have cn:=Yt r g o5 cap5 t5 ts6 [93] wc hrd5 (fun hi=>(hE6.tail (zl hi)).ne)
         have hleft5:=hrd5.left
         unfold qs Zf at hT5
         simp only [zI,List.tail_cons] at hT5
         by_cases hm:zn t5 [93]=true
         ·simp only [if_pos hm] at cn
          rw [if_pos hm] at hT5
          have HMV:Hid (∀W,zc r wc W→zh r g (o5+5) (cap5-1) ts6 W→yB r g N F w res (fun f e ts=>zN f e ts) W∧yu r W<yu r wr):=fun W hK hR =>
           ⟨yB.moved (p:=fun f e ts=>zN f e ts) hr hNw hblk5 hx5 hk5 hz5 hK hR hf5 hT5 (hE6.tail (zl hm)),by rw [hR.left];simp only [List.length_cons] at hleft5;omega⟩
          clear hT5 hblk5 hx5 hrd5 hk5 hz5 cu' HT HX2 HK2 HE2 HKE HKW HPN HPZ n0 n1 n2 n3 n4 nf;go_wp2_with fail
          refine cn.mono ?_;clear cn;rintro e9 w9 ⟨hk9,rfl,hr9⟩;have HM9:Hid (yB r g N F w res (fun f e ts=>zN f e ts) w9∧yu r w9<yu r wr):=HMV.out w9 hk9 hr9
          clear HMV hk9 hr9;go_wp2
          exact HM9.out
         ·simp only [if_neg hm] at cn
          rw [if_neg hm] at hT5;simp only [zq,Option.some.injEq] at hT5;subst hT5;have HK5:Hid (zc r w wc):=hk5;clear hblk5 hx5 hrd5 hk5 hz5 cu' HT HX2 HK2 HE2 HKE HKW HPN HPZ n0 n1 n2 n3 n4 nf;go_wp2_with fail
          refine cn.mono ?_;clear cn;rintro e9 w9 ⟨hk9,rfl⟩;exact ⟨rfl,HK5.out.trans hk9,rfl⟩
     ·have hi':zn t2 [91]=false:=by simpa using hi
      rw [hi'] at cs;rw [if_neg hi] at hT;go_wp2_with fail
      refine cs.mono ?_;clear cs;rintro e' wB ⟨rfl,hkB,hrB⟩;have hrB':zh r g o2 cap2 (t2::ts3) wB:=by simpa using hrB
      have cd:=ZL r g o2 cap2 t2 ts3 [46] wB hrB' (fun hi=>(HE2.out.tail (zl hi)).ne)
      have HKB:Hid (zc r wr wB):=hkB;clear hkB hrB hrB'
      by_cases hd:zn t2 [46]=true
      ·rw [hd] at cd
       rw [if_pos hd] at hT;have hE3:=HE2.out.tail (zl hd);obtain ⟨t3,ts4,rfl⟩:=hE3.cons;go_wp2_with fail
       refine cd.mono ?_;clear cd;rintro e' wE ⟨rfl,hkE,hrE⟩;have hkE':zc r wr wE:=HKB.out.trans hkE;have hrE':zh r g (o2+5) (cap2-1) (t3::ts4) wE:=by simpa using hrE
       obtain ⟨pN,pz⟩:=HBLK.out wE hkE';have HKE:Hid (zc r wr wE):=hkE';have HKW:Hid (zc r w wE):=HK2.out.trans hkE';have hNlt:N<wE.heap.size:=(Array.getElem?_eq_some_iff.1 pN).1;have HRE:Hid (zh r g (o2+5) (cap2-1) (t3::ts4) wE):=hrE';obtain ⟨n0,n1,n2,n3,n4,nf⟩:=zo pN;have n0':=ze n0;have n1':=ze n1;have n2':=ze n2;have n3':=ze n3;have n4':=ze n4;have HPN:Hid (wE.heap[N]?=some (.cells #[.int .i64 a2,.string b2,.int .i64 c2,.slice p2 q2 s2,.int .i64 (e.line:Int)] 45 (0,0))):=pN;have HPZ:Hid (wE.heap[w.heap.size]?=some ZA):=pz
       have cb:∀W:World,zc r wE W→zh r g (o2+5) (cap2-1) (t3::ts4) W→Calls Tryz.prog 94 #[.pointer (some ⟨r,0,none⟩)] W fun e w'=>zc r W w'∧if t3.k=1 then e=.returned (.string (za t3.s))∧zh r g (o2+5+5) (cap2-1-1) ts4 w' else e=Z2 t3.at0:=fun W hK hR =>
        Xl r g _ _ t3 ts4 W hR (fun hk=>(hE3.tail (by omega)).ne)
       simp only [Yg,zI,List.tail_cons] at hT;clear pN pz hrE hrE' hkE hkE' HKB HBLK HEX HEX1
       by_cases h3:t3.k=1
       ·rw [if_pos h3] at hT
        have hE4:=hE3.tail (by omega:t3.k≠0)
        have hl7:ts4.length<yu r wr:=by rw [hleft];simp only [List.length_cons];omega
        have HT:Hid (zN f3 (.mk 9 t3.s 0 [e] e.line) ts4=some res):=hT
        have cu':∀W:World,zc r wE W→zh r g (o2+5) (cap2-1) (t3::ts4) W→Calls Tryz.prog 94 #[.pointer (some ⟨r,0,none⟩)] W fun e' w'=>e'=.returned (.string (za t3.s))∧w'.heap[N]?=some (.cells #[.int .i64 a2,.string b2,.int .i64 c2,.slice p2 q2 s2,.int .i64 (e.line:Int)] 45 (0,0))∧W.heap.size≤w'.heap.size∧Hid (zc r W w'∧zh r g (o2+5+5) (cap2-1-1) ts4 w'):=fun W hK hR=>(cb W hK hR).mono fun e' w' h=>by
         obtain ⟨hk4,hpost⟩:=h;rw [if_pos h3] at hpost;obtain ⟨rfl,hrd⟩:=hpost;exact ⟨rfl,(hk4.block N (Nat.lt_of_lt_of_le hNlt hK.size) (by omega)).trans ((hK.block N hNlt (by omega)).trans HPN.out),hk4.size,hk4,hrd⟩
        clear cb hT;go_wp2_with fail
        go_region_with (go_at_call 94;refine (cu' _ (by first | exact zc.drew r wE | exact ((zc.refl r wE).alloc _).trans (zc.drew _ _)) (by first | exact HRE.out.keep rfl rfl | exact (HRE.out.alloc _).keep rfl rfl)).mono ?_;rintro e' w7 ⟨rfl,p7,hs7,H7⟩;have hN7:N<w7.heap.size:=(Array.getElem?_eq_some_iff.1 p7).1;have p7':=(fun ob=>(Below.heap_alloc w7 ob N hN7).trans p7);obtain ⟨m0,m1,m2,m3,m4,mf⟩:=zo p7;have m0':=ze m0;have m1':=ze m1;have m2':=ze m2;have m3':=ze m3;have m4':=ze m4;have mf':=(fun ob j=>(zo (p7' ob)).2.2.2.2.2 j))
        all_goals (obtain ⟨hk7d,hrd7⟩:=H7.out)
        all_goals first
         | (have hk7:zc r wE w7:=(zc.drew r wE).trans hk7d
            obtain ⟨W,hW⟩:∃W,W=(set5 w7 N (.int .i64 9) (.string (za t3.s)) (.int .i64 0) (.slice (some ⟨w7.heap.size,0,none⟩) 1 1) (.int .i64 (e.line:Int))).alloc (.cells #[.int .i64 a2,.string b2,.int .i64 c2,.slice p2 q2 s2,.int .i64 (e.line:Int)] 45):=⟨_,rfl⟩;obtain ⟨hJ,hlt7⟩:=yB.one (p:=fun f e ts=>zN f e ts) 9 t3.s hr hgw hNw hNlt HX2.out HK2.out HKE.out hk7 p7 HPZ.out hrd7 hf3 HT.out hE4 hrd7.few (.int .i64 9) rfl W hW
            have HJW:Hid (yB r g N F w res (fun f e ts=>zN f e ts) W∧yu r W<yu r wr):=show _∧_<_ from ⟨hJ,by rw [hlt7];exact hl7⟩
            change Exit.inBlock _ _ _ _ ((set5 w7 N (.int .i64 9) (.string (za t3.s)) (.int .i64 0) (.slice (some ⟨w7.heap.size,0,none⟩) 1 1) (.int .i64 (e.line:Int))).alloc (.cells #[.int .i64 a2,.string b2,.int .i64 c2,.slice p2 q2 s2,.int .i64 (e.line:Int)] 45))
            rw [←hW];clear hW hJ hlt7 hrd7 hk7 hk7d p7 p7' m0 m1 m2 m3 m4 mf m0' m1' m2' m3' m4' mf' n0 n1 n2 n3 n4 nf n0' n1' n2' n3' n4' cu' H7 HPN HPZ HT HKE HKW HX2 HK2 HE2 hl7 hE4 hE3 HRE;go_wp2
            exact HJW.out)
         | (have hk7:zc r (wE.alloc (.cells #[.int .i64 a2,.string b2,.int .i64 c2,.slice p2 q2 s2,.int .i64 (e.line:Int)] 45)) w7:=(zc.drew r (wE.alloc (.cells #[.int .i64 a2,.string b2,.int .i64 c2,.slice p2 q2 s2,.int .i64 (e.line:Int)] 45))).trans hk7d
            obtain ⟨W,hW⟩:∃W,W=set5 w7 N (.int .i64 9) (.string (za t3.s)) (.int .i64 0) (.slice (some ⟨wE.heap.size,0,none⟩) 1 1) (.int .i64 (e.line:Int)):=⟨_,rfl⟩;obtain ⟨hJ,hlt7⟩:=yB.one' (p:=fun f e ts=>zN f e ts) 9 t3.s hr hgw hNw hNlt HX2.out HK2.out HKE.out hk7 p7 HPZ.out hrd7 hf3 HT.out hE4 (.int .i64 9) rfl W hW
            have HJW:Hid (yB r g N F w res (fun f e ts=>zN f e ts) W∧yu r W<yu r wr):=show _∧_<_ from ⟨hJ,by rw [hlt7];exact hl7⟩
            change Exit.inBlock _ _ _ _ (set5 w7 N (.int .i64 9) (.string (za t3.s)) (.int .i64 0) (.slice (some ⟨wE.heap.size,0,none⟩) 1 1) (.int .i64 (e.line:Int)))
            rw [←hW];clear hW hJ hlt7 hrd7 hk7 hk7d p7 p7' m0 m1 m2 m3 m4 mf m0' m1' m2' m3' m4' mf' n0 n1 n2 n3 n4 nf n0' n1' n2' n3' n4' cu' H7 HPN HPZ HT HKE HKW HX2 HK2 HE2 hl7 hE4 hE3 HRE;go_wp2
            exact HJW.out)
       ·rw [if_neg h3] at hT
        simp only [zq,Option.some.injEq] at hT;subst hT
        have cu':∀W:World,zc r wE W→zh r g (o2+5) (cap2-1) (t3::ts4) W→Calls Tryz.prog 94 #[.pointer (some ⟨r,0,none⟩)] W fun e w'=>e=Z2 t3.at0∧zc r w w':=fun W hK hR=>(cb W hK hR).mono fun e w' h=>by
         obtain ⟨hk4,hpost⟩:=h;rw [if_neg h3] at hpost;exact ⟨hpost,HKW.out.trans (hK.trans hk4)⟩
        clear cb;go_wp2_with fail
        go_region_dies
        all_goals
         go_wp2_with fail
         refine (cu' _ ?_ ?_).mono ?_
         ·first | exact zc.drew r wE | exact ((zc.refl r wE).alloc _).trans (zc.drew _ _)
         ·first | exact HRE.out.keep rfl rfl | exact (HRE.out.alloc _).keep rfl rfl
         ·rintro e w4 ⟨rfl,hk4⟩;exact ⟨rfl,hk4,rfl⟩
      ·have hd':zn t2 [46]=false:=by simpa using hd
       rw [hd'] at cd;rw [if_neg hd] at hT;simp only [Option.some.injEq] at hT;subst hT;go_wp2_with fail
       refine cd.mono ?_;clear cd;rintro e' wC ⟨rfl,hkC,hrC⟩;obtain ⟨pN,pz,hpo⟩:=HEX.out wC (HKB.out.trans hkC) (by simpa using hrC)
       obtain ⟨n0,n1,n2,n3,n4,nf⟩:=zo pN;obtain ⟨q0,q1,q2',q3,q4,qf⟩:=zo pz;obtain ⟨z0,z1,z2,z3,z4⟩:=zA pz (.int .i64 a2) (.string b2) (.int .i64 c2) (.slice p2 q2 s2) (.int .i64 (e.line:Int));have HPO:Hid (zQ r g w (.ok (e,t2::ts3)) (.returned (.agg #[.int .i64 a2,.string b2,.int .i64 c2,.slice p2 q2 s2,.int .i64 (e.line:Int)])) (set5 wC w.heap.size (.int .i64 a2) (.string b2) (.int .i64 c2) (.slice p2 q2 s2) (.int .i64 (e.line:Int)))):=hpo;clear HEX HEX1 HX2 HK2 HE2 hpo pN pz hkC hrC HKB HBLK;go_wp2
       exact bodyPost_ret (v:=.agg #[.int .i64 a2,.string b2,.int .i64 c2,.slice p2 q2 s2,.int .i64 (e.line:Int)]) (by simp [results,Tryz.results148,go_sem,z0,z1,z2,z3,z4]) rfl HPO.out
theorem zfT (r g:Nat) (hrl:r≠1):∀f,Ua r g f:=by
 intro f
 induction f with
 | zero=>exact ⟨fun _ _ _ _ _ _ h=>by simp [zk] at h,fun _ _ _ _ _ h=>by simp [ZP] at h,fun _ _ _ _ _ h=>by simp [Za] at h,fun _ _ _ _ _ h=>by simp [Yh] at h,fun _ _ _ _ _ h=>by simp [zR] at h⟩
 | succ f C =>
  refine C.next hrl (fun o cap least ts w res h hE hl h6 hp=>?_) (fun o cap ts w res h hE hl hp=>?_)
  ·refine zen r g o cap f least ts w res h hE h.few hl hrl h6 hp fun w1 o1 cap1 ts1 r1 hb hE1 _ hR hK=>?_
   have:=C.between (least+1) w1 o1 cap1 ts1 r1 hb hE1 hR (hl.kept hK hrl)
   simpa using this
  ·exact zgY r g o cap f ts w res h hE hp (fun w1 o1 cap1 ts1 r1 hb hE1 hR hK=>C.single w1 o1 cap1 ts1 r1 hb hE1 hR (hl.kept hK hrl)) fun w1 o1 cap1 ts1 r1 hb hE1 hR hK=>C.expr hrl w1 o1 cap1 ts1 r1 hb hE1 hR (hl.kept hK hrl)
structure zhT (r g f:Nat):Prop where
 stmt:∀w o cap ts res,ZQ f ts=some res→zj ts→zh r g o cap ts w→ZS w→Calls Tryz.prog 136 #[.pointer (some ⟨r,0,none⟩)] w (Z0 r g w res)
 block:∀w o cap ts res,zU f ts=some res→zj ts→zh r g o cap ts w→ZS w→Calls Tryz.prog 100 #[.pointer (some ⟨r,0,none⟩)] w (vV r g w res)
theorem zhU (r g:Nat) (hrl:r≠1):∀f,zhT r g f:=by
 intro f
 induction f with
 | zero=>exact ⟨fun _ _ _ _ _ h=>by simp [ZQ] at h,fun _ _ _ _ _ h=>by simp [zU] at h⟩
 | succ f C =>
  refine ⟨fun w o cap ts res hp hE h hl=>?_,fun w o cap ts res hp hE h hl=>?_⟩
  ·exact zbE r g o cap f ts w res h hE hp (fun w1 o1 cap1 ts1 r1 hb hE1 hR hK=>(zfT r g hrl f).expr hrl w1 o1 cap1 ts1 r1 hb hE1 hR (hl.kept hK hrl)) (fun w1 o1 cap1 ts1 r1 hb hE1 hR hK=>C.block w1 o1 cap1 ts1 r1 hb hE1 hR (hl.kept hK hrl))
  ·exact zgK r g o cap f ts w res h hE hp (fun w1 o1 cap1 ts1 r1 hb hE1 hR hK=>C.stmt w1 o1 cap1 ts1 r1 hb hE1 hR (hl.kept hK hrl))
end Go.Proofs.YtpejpbbdgblbeaaGreatDoor
