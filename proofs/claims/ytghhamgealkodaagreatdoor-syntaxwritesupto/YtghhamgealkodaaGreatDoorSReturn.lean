import Derived.Test.YtghhamgealkodaaGreatDoorMC24
namespace Go.Proofs.YtghhamgealkodaaGreatDoor
open Go.RowKit Go.Shelf
set_option maxRecDepth 100000
def returnR (t:Tk) (ts:List Tk) (res:PR Ex):PR St :=
 if isTk t [59]=true then .ok (.mk 6 [] [] [] [] 0,ts) else
 match res with
 | .error a=>.error a
 | .ok (e,us)=>if isTk (hdT us) [59]=true then .ok (.mk 6 [] [e] [] [] 0,us.tail) else .error (hdT us).at0
set_option maxHeartbeats 4000000 in
theorem rdReturn (r g o cap:Nat) (t:Tk) (ts:List Tk) (w:World) (res:PR Ex) (h:RdAt r g o cap (t::ts) w) (hE:EndsT (t::ts)) (hEnd:∀l us,res=.ok (l,us)→EndsT us)
  (hex:isTk t [59]=false→∀w1 o1 cap1,RdAt r g o1 cap1 (t::ts) w1→Kept r w w1→Calls Tryz.prog 37 #[.pointer (some ⟨r,0,none⟩)] w1 (PostE r g w1 res)) :
  Calls Tryz.prog 175 #[.pointer (some ⟨r,0,none⟩)] w (PostS r g w (returnR t ts res)):=by
 generalize hres:returnR t ts res=R
 have hr:=h.lt.1
 have hgw:=h.lt.2
 obtain ⟨w2,hw2⟩:∃w2,w2=(w.alloc stZ).alloc (.cells #[.int .i64 6,.string ⟨#[]⟩,.slice none 0 0,.slice none 0 0,.slice none 0 0,.int .i64 0] 117):=⟨_,rfl⟩
 have h2:RdAt r g o cap (t::ts) w2:=by rw [hw2];exact (h.alloc _).alloc _
 have k2:Kept r w w2:=by rw [hw2];exact ((Kept.refl r w).alloc _).alloc _
 have b2:w2.heap[w.heap.size]?=some stZ:=by rw [hw2,Below.heap_alloc _ _ _ (by simp)];exact World.alloc_heap_new _ _
 have bP:w2.heap[w.heap.size+1]?=some (.cells #[.int .i64 6,.string ⟨#[]⟩,.slice none 0 0,.slice none 0 0,.slice none 0 0,.int .i64 0] 117 (0,0)):=by
  rw [hw2]
  have:=World.alloc_heap_new (w.alloc stZ) (.cells #[.int .i64 6,.string ⟨#[]⟩,.slice none 0 0,.slice none 0 0,.slice none 0 0,.int .i64 0] 117)
  simpa using this
 have hP:w.heap.size+1<w2.heap.size:=(Array.getElem?_eq_some_iff.1 bP).1
 have HK2:Hid (Kept r w w2):=k2
 have HW2:Hid (w2=(w.alloc stZ).alloc (.cells #[.int .i64 6,.string ⟨#[]⟩,.slice none 0 0,.slice none 0 0,.slice none 0 0,.int .i64 0] 117)):=hw2
 have HB:Hid (w2.heap[w.heap.size]?=some stZ∧w2.heap[w.heap.size+1]?=some (.cells #[.int .i64 6,.string ⟨#[]⟩,.slice none 0 0,.slice none 0 0,.slice none 0 0,.int .i64 0] 117 (0,0))):=⟨b2,bP⟩
 have cs:=rdSkip r g o cap t ts [59] w2 h2 (fun hi=>(hE.tail (isTk_kind hi)).ne)
 unfold returnR at hres
 clear h hw2 h2 k2 b2 bP
 by_cases hi:isTk t [59]=true
 ·rw [hi] at cs
  rw [if_pos hi] at hres
  subst hres
  clear hex hEnd
  go_enter Tryz.func175,Tryz.ntmps175
  go_wp2_with fail
  rw [←HW2.out]
  refine cs.mono ?_
  clear cs HW2
  rintro e w6 ⟨rfl,hk6,hr6⟩
  have h6:RdAt r g (o+5) (cap-1) ts w6:=by simpa using hr6
  have b6:=(hk6.block _ (by omega) (by omega)).trans HB.out.1
  have c6:=(hk6.block _ hP (by omega)).trans HB.out.2
  obtain ⟨e0,e1,e2,e3,e4,e5,-⟩:=cells6 c6
  obtain ⟨q0,q1,q2,q3,q4,q5,qf⟩:=cells6 b6
  obtain ⟨z0,z1,z2,z3,z4,z5,-⟩:=cells6 (set6_block b6 (.int .i64 6) (.string ⟨#[]⟩) (.slice none 0 0) (.slice none 0 0) (.slice none 0 0) (.int .i64 0))
  have HP:Hid (PostS r g w (.ok (.mk 6 [] [] [] [] 0,ts)) (.returned (.agg #[.int .i64 6,.string ⟨#[]⟩,.slice none 0 0,.slice none 0 0,.slice none 0 0,.int .i64 0])) (set6 w6 w.heap.size (.int .i64 6) (.string ⟨#[]⟩) (.slice none 0 0) (.slice none 0 0) (.slice none 0 0) (.int .i64 0))) :=
   PostS.of_set6 (B:=w.heap.size+1) 6 [] 0 (HK2.out.trans hk6) (Nat.le_refl _) hr hgw (.inl ⟨rfl,rfl⟩) (StsIn.nil _ _) (StsIn.nil _ _) (Nat.lt_succ_self _) h6
  clear b6 c6 hk6 h6 hr6 HB HK2
  go_wp2
  exact bodyPost_ret (v:=.agg #[.int .i64 6,.string ⟨#[]⟩,.slice none 0 0,.slice none 0 0,.slice none 0 0,.int .i64 0]) (by simp [results,Tryz.results175,go_sem,z0,z1,z2,z3,z4,z5]) rfl HP.out
 ·have hi':isTk t [59]=false:=by simpa using hi
  rw [hi'] at cs
  rw [if_neg hi] at hres
  go_enter Tryz.func175,Tryz.ntmps175
  go_wp2_with fail
  rw [←HW2.out]
  refine cs.mono ?_
  clear cs HW2
  rintro e w3 ⟨rfl,hk3,hr3⟩
  have h3:RdAt r g o cap (t::ts) w3:=by simpa using hr3
  have ct:=hex hi' w3 _ _ h3 (HK2.out.trans hk3)
  have HK3:Hid (Kept r w2 w3):=hk3
  have hs3:=hk3.size
  clear hex h3 hr3 hk3
  go_wp2_with fail
  refine ct.mono ?_
  clear ct
  rintro e w4 ⟨hk4,hpost⟩
  have k24:Kept r w2 w4:=HK3.out.trans hk4
  rcases res with a | ⟨x,us⟩
  ·simp only at hpost hres
   obtain rfl:=hpost
   subst hres
   exact ⟨rfl,HK2.out.trans k24,rfl⟩
  ·obtain ⟨v,o4,cap4,rfl,hx,hrd⟩:=hpost
   obtain ⟨xa,xb,xc,x0,x1,x2,xl,rfl⟩:=hx.agg
   simp only at hres
   have hE4:=hEnd x us rfl
   obtain ⟨t5,us5,rfl⟩:=hE4.cons
   simp only [hdT_cons,List.tail_cons] at hres
   have hs2:=HK2.out.size
   have hs4:=k24.size
   have hs34:=hk4.size
   have b4:=(k24.block _ (by omega) (by omega)).trans HB.out.1
   have c4:=(k24.block _ hP (by omega)).trans HB.out.2
   have c4':∀ob,(w4.alloc ob).heap[w.heap.size+1]?=some (.cells #[.int .i64 6,.string ⟨#[]⟩,.slice none 0 0,.slice none 0 0,.slice none 0 0,.int .i64 0] 117 (0,0)):=fun ob=>(Below.heap_alloc _ _ _ (by omega)).trans c4
   obtain ⟨-,-,g2,-,-,-,gf⟩:=cells6 c4
   have g2':=cell_al g2
   have gf2:w4.frozen? ⟨w.heap.size+1,2,none⟩=false:=gf 2
   have gf2':∀ob,(w4.alloc ob).frozen? ⟨w.heap.size+1,2,none⟩=false:=fun ob=>(cells6 (c4' ob)).2.2.2.2.2.2 2
   have hPl:w.heap.size+1<w4.heap.size:=by omega
   obtain ⟨w5,hw5⟩:∃w5,w5=(w4.setCell ⟨w.heap.size+1,2,none⟩ (.slice (some ⟨w4.heap.size,0,none⟩) 1 1)).alloc (.cells #[.int .i64 xa,.string xb,.int .i64 xc,.slice x0 x1 x2,.int .i64 xl] 40):=⟨_,rfl⟩
   have hw5b:w5=(w4.alloc (.cells #[.int .i64 xa,.string xb,.int .i64 xc,.slice x0 x1 x2,.int .i64 xl] 40)).setCell ⟨w.heap.size+1,2,none⟩ (.slice (some ⟨w4.heap.size,0,none⟩) 1 1):=by rw [hw5,World.setCell_alloc_past _ _ _ _ hPl]
   have hkeep:∀k,k≠w.heap.size+1→w5.heap[k]?=(w4.alloc (.cells #[.int .i64 xa,.string xb,.int .i64 xc,.slice x0 x1 x2,.int .i64 xl] 40)).heap[k]?:=fun k hk=>by rw [hw5b];exact Below.heap_setCell _ _ _ _ (by simpa using hk)
   have c5:w5.heap[w.heap.size+1]?=some (.cells #[.int .i64 6,.string ⟨#[]⟩,.slice (some ⟨w4.heap.size,0,none⟩) 1 1,.slice none 0 0,.slice none 0 0,.int .i64 0] 117 (0,0)):=by rw [hw5b];exact setCell_block _ (c4' _)
   have b5:=(hkeep w.heap.size (by omega)).trans ((Below.heap_alloc _ _ _ (by omega)).trans b4)
   have k5:Kept r w w5:=by rw [hw5b];exact ((HK2.out.trans k24).alloc _).setOther (by simp) _
   have hrd5:RdAt r g o4 cap4 (t5::us5) w5:=(hrd.alloc (.cells #[.int .i64 xa,.string xb,.int .i64 xc,.slice x0 x1 x2,.int .i64 xl] 40)).keep (hkeep r (by omega)) (hkeep g (by omega))
   have hrow0:=RowIn.one (S:=fun k=>w3.heap.size≤k) 40 (c:=[.int .i64 xa,.string xb,.int .i64 xc,.slice x0 x1 x2,.int .i64 xl]) hx rfl (by omega)
   have hrow5:RowIn (fun k=>w3.heap.size≤k) w5 [x] (.slice (some ⟨w4.heap.size,0,none⟩) 1 1):=hrow0.kept (by rw [hw5b];simp) fun k hk _=>hkeep k (by omega)
   have hw5':=hw5.symm
   have ce:=rdNeed r g o4 cap4 t5 us5 [59] w5 hrd5 (fun hi=>(hE4.tail (isTk_kind hi)).ne)
   have HK5:Hid (Kept r w w5):=k5
   have HROW:Hid (RowIn (fun k=>w3.heap.size≤k) w5 [x] (.slice (some ⟨w4.heap.size,0,none⟩) 1 1)):=hrow5
   have HB5:Hid (w5.heap[w.heap.size]?=some stZ∧w5.heap[w.heap.size+1]?=some (.cells #[.int .i64 6,.string ⟨#[]⟩,.slice (some ⟨w4.heap.size,0,none⟩) 1 1,.slice none 0 0,.slice none 0 0,.int .i64 0] 117 (0,0))):=⟨b5,c5⟩
   have hP5:w.heap.size+1<w5.heap.size:=(Array.getElem?_eq_some_iff.1 c5).1
   clear hw5 hw5b hkeep b4 c4 c4' c5 b5 k5 hrd5 hrd gf hk4 k24 HB HK2 HK3 hx hrow0 hrow5
   by_cases hm:isTk t5 [59]=true
   ·simp only [if_pos hm] at ce
    rw [if_pos hm] at hres
    subst hres
    go_wp2_with fail
    refine ce.mono ?_
    clear ce hw5'
    rintro e w6 ⟨hk6,rfl,h6⟩
    have b6:=(hk6.block _ (by omega) (by omega)).trans HB5.out.1
    have c6:=(hk6.block _ hP5 (by omega)).trans HB5.out.2
    obtain ⟨e0,e1,e2,e3,e4,e5,-⟩:=cells6 c6
    obtain ⟨q0,q1,q2,q3,q4,q5,qf⟩:=cells6 b6
    obtain ⟨z0,z1,z2,z3,z4,z5,-⟩:=cells6 (set6_block b6 (.int .i64 6) (.string ⟨#[]⟩) (.slice (some ⟨w4.heap.size,0,none⟩) 1 1) (.slice none 0 0) (.slice none 0 0) (.int .i64 0))
    have hrow6:RowIn (fun k=>w3.heap.size≤k) w6 [x] (.slice (some ⟨w4.heap.size,0,none⟩) 1 1):=HROW.out.kept hk6.size fun k hk hlt=>hk6.block k hlt (by omega)
    have HP:Hid (PostS r g w (.ok (.mk 6 [] [x] [] [] 0,us5)) (.returned (.agg #[.int .i64 6,.string ⟨#[]⟩,.slice (some ⟨w4.heap.size,0,none⟩) 1 1,.slice none 0 0,.slice none 0 0,.int .i64 0])) (set6 w6 w.heap.size (.int .i64 6) (.string ⟨#[]⟩) (.slice (some ⟨w4.heap.size,0,none⟩) 1 1) (.slice none 0 0) (.slice none 0 0) (.int .i64 0))) :=
     PostS.of_set6 (B:=w3.heap.size) 6 [] 0 (HK5.out.trans hk6) (Nat.le_refl _) hr hgw hrow6 (StsIn.nil _ _) (StsIn.nil _ _) (by omega) h6
    clear b6 c6 hrow6 hk6 h6 HB5 HROW HK5
    go_wp2
    exact bodyPost_ret (v:=.agg #[.int .i64 6,.string ⟨#[]⟩,.slice (some ⟨w4.heap.size,0,none⟩) 1 1,.slice none 0 0,.slice none 0 0,.int .i64 0]) (by simp [results,Tryz.results175,go_sem,z0,z1,z2,z3,z4,z5]) rfl HP.out
   ·simp only [if_neg hm] at ce
    rw [if_neg hm] at hres
    subst hres
    go_wp2_with fail
    refine ce.mono ?_
    clear ce
    rintro e w6 ⟨hk6,rfl⟩
    exact ⟨rfl,HK5.out.trans hk6,rfl⟩
end Go.Proofs.YtghhamgealkodaaGreatDoor
