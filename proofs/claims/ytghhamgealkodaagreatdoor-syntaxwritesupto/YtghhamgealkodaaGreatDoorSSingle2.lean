import Derived.Test.YtghhamgealkodaaGreatDoorMC17
namespace Go.Proofs.YtghhamgealkodaaGreatDoor
open Go.RowKit Go.Shelf
set_option maxRecDepth 100000
set_option maxHeartbeats 4000000 in
theorem rdSingleTrue (r g o cap:Nat) (t:Tk) (ts:List Tk) (w:World) (hi:isTk t [116,114,117,101]=true) (h:RdAt r g o cap (t::ts) w) (hE:EndsT (t::ts)) (hk1:t.k≠1) (hk2:t.k≠2) (hk3:t.k≠3)  :
  Calls Tryz.prog 177 #[.pointer (some ⟨r,0,none⟩)] w (PostE r g w (.ok (.mk 2 [] 1 [] t.line,ts))):=by
 have hr:=h.lt.1
 have hgw:=h.lt.2
 have h0:=h.alloc exZ
 have ch:=rdHere r g o cap t ts _ h0
 obtain ⟨w2,hw2⟩:∃w2,w2=((w.alloc exZ).alloc (tkO t)).alloc (tkO t):=⟨_,rfl⟩
 have h2:RdAt r g o cap (t::ts) w2:=by rw [hw2];exact (h0.alloc _).alloc _
 have k2:Kept r w w2:=by rw [hw2];exact (((Kept.refl r w).alloc _).alloc _).alloc _
 have n0:w2.heap[w.heap.size]?=some exZ:=by
  rw [hw2,Below.heap_alloc _ _ _ (by simp;omega),Below.heap_alloc _ _ _ (by simp)]
  exact World.alloc_heap_new _ _
 have n2:w2.heap[w.heap.size+1+1]?=some (tkO t):=by
  have hx:=World.alloc_heap_new ((w.alloc exZ).alloc (tkO t)) (tkO t)
  rw [←hw2,show ((w.alloc exZ).alloc (tkO t)).heap.size=w.heap.size+1+1 by simp] at hx
  exact hx
 have hl2:w.heap.size+1+1<w2.heap.size:=(Array.getElem?_eq_some_iff.1 n2).1
 have HW2:Hid (w2=((w.alloc exZ).alloc (tkO t)).alloc (tkO t)):=hw2
 have HK2:Hid (Kept r w w2):=k2
 have HN0:Hid (w2.heap[w.heap.size]?=some exZ):=n0
 have HN2:Hid (w2.heap[w.heap.size+1+1]?=some (tkO t)):=n2
 have hk1':¬(t.k:Int)=1:=by omega
 have hk2':¬(t.k:Int)=2:=by omega
 have hk3':¬(t.k:Int)=3:=by omega
 clear h h0 hw2 k2 n0 n2
 go_enter Tryz.func177,Tryz.ntmps177
 go_wp2_with fail
 refine ch.mono ?_
 clear ch
 rintro e w1 ⟨rfl,rfl⟩
 simp only [tkV]
 have HKw2:Hid (Kept r w2 w2):=Kept.refl r w2
 have HRw2:Hid (RdAt r g o cap (t::ts) w2):=h2
 clear h2
 have cs:=rdSkip r g o cap t ts [116,114,117,101] w2 HRw2.out (fun hi=>(hE.tail (isTk_kind hi)).ne)
 rw [hi] at cs
 go_wp2_with fail
 rw [←HW2.out]
 refine cs.mono ?_
 clear cs
 rintro e w9 ⟨rfl,hkx,hrx⟩
 have k29:Kept r w2 w9:=HKw2.out.trans hkx
 have hr9:RdAt r g (o+5) (cap-1) ts w9:=by simpa using hrx
 have p0:=(k29.block _ (by omega) (by omega)).trans HN0.out
 have p2:=(k29.block _ hl2 (by omega)).trans HN2.out
 obtain ⟨c0,c1,c2,c3,c4,-⟩:=cells5 p2
 obtain ⟨q0,q1,q2,q3,q4,qf⟩:=cells5 p0
 obtain ⟨z0,z1,z2,z3,z4⟩:=set5_cells p0 (.int .i64 2) (.string ⟨#[]⟩) (.int .i64 1) (.slice none 0 0) (.int .i64 t.line)
 have HP:Hid (PostE r g w (.ok (.mk 2 [] 1 [] t.line,ts)) (.returned (.agg #[.int .i64 2,.string ⟨#[]⟩,.int .i64 1,.slice none 0 0,.int .i64 t.line])) (set5 w9 w.heap.size (.int .i64 2) (.string ⟨#[]⟩) (.int .i64 1) (.slice none 0 0) (.int .i64 t.line))) :=
  PostE.of_set5 (B:=w.heap.size+1) 2 [] 1 t.line (HK2.out.trans k29) (Nat.le_refl _) hr hgw (.inl ⟨rfl,rfl⟩) (Nat.lt_succ_self _) hr9
 clear k29 hr9 p0 p2 hkx hrx
 go_wp2
 exact bodyPost_ret (v:=.agg #[.int .i64 2,.string ⟨#[]⟩,.int .i64 1,.slice none 0 0,.int .i64 t.line]) (by simp [results,Tryz.results177,go_sem,z0,z1,z2,z3,z4]) rfl HP.out
set_option maxHeartbeats 4000000 in
theorem rdSingleFalse (r g o cap:Nat) (t:Tk) (ts:List Tk) (w:World) (hi:isTk t [102,97,108,115,101]=true) (h:RdAt r g o cap (t::ts) w) (hE:EndsT (t::ts)) (hk1:t.k≠1) (hk2:t.k≠2) (hk3:t.k≠3) (hiT:isTk t [116,114,117,101]=false) :
  Calls Tryz.prog 177 #[.pointer (some ⟨r,0,none⟩)] w (PostE r g w (.ok (.mk 2 [] 0 [] t.line,ts))):=by
 have hr:=h.lt.1
 have hgw:=h.lt.2
 have h0:=h.alloc exZ
 have ch:=rdHere r g o cap t ts _ h0
 obtain ⟨w2,hw2⟩:∃w2,w2=((w.alloc exZ).alloc (tkO t)).alloc (tkO t):=⟨_,rfl⟩
 have h2:RdAt r g o cap (t::ts) w2:=by rw [hw2];exact (h0.alloc _).alloc _
 have k2:Kept r w w2:=by rw [hw2];exact (((Kept.refl r w).alloc _).alloc _).alloc _
 have n0:w2.heap[w.heap.size]?=some exZ:=by
  rw [hw2,Below.heap_alloc _ _ _ (by simp;omega),Below.heap_alloc _ _ _ (by simp)]
  exact World.alloc_heap_new _ _
 have n2:w2.heap[w.heap.size+1+1]?=some (tkO t):=by
  have hx:=World.alloc_heap_new ((w.alloc exZ).alloc (tkO t)) (tkO t)
  rw [←hw2,show ((w.alloc exZ).alloc (tkO t)).heap.size=w.heap.size+1+1 by simp] at hx
  exact hx
 have hl2:w.heap.size+1+1<w2.heap.size:=(Array.getElem?_eq_some_iff.1 n2).1
 have HW2:Hid (w2=((w.alloc exZ).alloc (tkO t)).alloc (tkO t)):=hw2
 have HK2:Hid (Kept r w w2):=k2
 have HN0:Hid (w2.heap[w.heap.size]?=some exZ):=n0
 have HN2:Hid (w2.heap[w.heap.size+1+1]?=some (tkO t)):=n2
 have hk1':¬(t.k:Int)=1:=by omega
 have hk2':¬(t.k:Int)=2:=by omega
 have hk3':¬(t.k:Int)=3:=by omega
 clear h h0 hw2 k2 n0 n2
 go_enter Tryz.func177,Tryz.ntmps177
 go_wp2_with fail
 refine ch.mono ?_
 clear ch
 rintro e w1 ⟨rfl,rfl⟩
 simp only [tkV]
 have HKw2:Hid (Kept r w2 w2):=Kept.refl r w2
 have HRw2:Hid (RdAt r g o cap (t::ts) w2):=h2
 clear h2
 have cs:=rdSkip r g o cap t ts [116,114,117,101] w2 HRw2.out (fun hi=>(hE.tail (isTk_kind hi)).ne)
 rw [hiT] at cs
 go_wp2_with fail
 rw [←HW2.out]
 refine cs.mono ?_
 clear cs
 rintro e w3 ⟨rfl,hkx,hrx⟩
 have HKw3:Hid (Kept r w2 w3):=HKw2.out.trans hkx
 have HRw3:Hid (RdAt r g o cap (t::ts) w3):=show RdAt _ _ _ _ _ _ by simpa using hrx
 clear hkx hrx HKw2 HRw2
 clear HW2
 have cs:=rdSkip r g o cap t ts [102,97,108,115,101] w3 HRw3.out (fun hi=>(hE.tail (isTk_kind hi)).ne)
 rw [hi] at cs
 go_wp2_with fail
 refine cs.mono ?_
 clear cs
 rintro e w9 ⟨rfl,hkx,hrx⟩
 have k29:Kept r w2 w9:=HKw3.out.trans hkx
 have hr9:RdAt r g (o+5) (cap-1) ts w9:=by simpa using hrx
 have p0:=(k29.block _ (by omega) (by omega)).trans HN0.out
 have p2:=(k29.block _ hl2 (by omega)).trans HN2.out
 obtain ⟨c0,c1,c2,c3,c4,-⟩:=cells5 p2
 obtain ⟨q0,q1,q2,q3,q4,qf⟩:=cells5 p0
 obtain ⟨z0,z1,z2,z3,z4⟩:=set5_cells p0 (.int .i64 2) (.string ⟨#[]⟩) (.int .i64 0) (.slice none 0 0) (.int .i64 t.line)
 have HP:Hid (PostE r g w (.ok (.mk 2 [] 0 [] t.line,ts)) (.returned (.agg #[.int .i64 2,.string ⟨#[]⟩,.int .i64 0,.slice none 0 0,.int .i64 t.line])) (set5 w9 w.heap.size (.int .i64 2) (.string ⟨#[]⟩) (.int .i64 0) (.slice none 0 0) (.int .i64 t.line))) :=
  PostE.of_set5 (B:=w.heap.size+1) 2 [] 0 t.line (HK2.out.trans k29) (Nat.le_refl _) hr hgw (.inl ⟨rfl,rfl⟩) (Nat.lt_succ_self _) hr9
 clear k29 hr9 p0 p2 hkx hrx
 go_wp2
 exact bodyPost_ret (v:=.agg #[.int .i64 2,.string ⟨#[]⟩,.int .i64 0,.slice none 0 0,.int .i64 t.line]) (by simp [results,Tryz.results177,go_sem,z0,z1,z2,z3,z4]) rfl HP.out
def parenR (t:Tk) (res:PR Ex):PR Ex :=
 if isTk t [40]=true then
  match res with
  | .error a=>.error a
  | .ok (e,us)=>if isTk (hdT us) [41]=true then .ok (e,us.tail) else .error (hdT us).at0
 else .error t.at0
set_option maxHeartbeats 4000000 in
theorem rdSingleParen (r g o cap:Nat) (t:Tk) (ts:List Tk) (w:World) (res:PR Ex) (hEnd:∀l us,res=.ok (l,us)→EndsT us) (hex:isTk t [40]=true→∀w1 o1 cap1,RdAt r g o1 cap1 ts w1→Kept r w w1→Calls Tryz.prog 37 #[.pointer (some ⟨r,0,none⟩)] w1 (PostE r g w1 res)) (h:RdAt r g o cap (t::ts) w) (hE:EndsT (t::ts)) (hk1:t.k≠1) (hk2:t.k≠2) (hk3:t.k≠3) (hiT:isTk t [116,114,117,101]=false) (hiF:isTk t [102,97,108,115,101]=false) (hiN:isTk t [110,101,119]=false) (hiB:isTk t [91]=false) :
  Calls Tryz.prog 177 #[.pointer (some ⟨r,0,none⟩)] w (PostE r g w (parenR t res)):=by
 generalize hres:parenR t res=R
 have hr:=h.lt.1
 have hgw:=h.lt.2
 have h0:=h.alloc exZ
 have ch:=rdHere r g o cap t ts _ h0
 obtain ⟨w2,hw2⟩:∃w2,w2=((w.alloc exZ).alloc (tkO t)).alloc (tkO t):=⟨_,rfl⟩
 have h2:RdAt r g o cap (t::ts) w2:=by rw [hw2];exact (h0.alloc _).alloc _
 have k2:Kept r w w2:=by rw [hw2];exact (((Kept.refl r w).alloc _).alloc _).alloc _
 have n0:w2.heap[w.heap.size]?=some exZ:=by
  rw [hw2,Below.heap_alloc _ _ _ (by simp;omega),Below.heap_alloc _ _ _ (by simp)]
  exact World.alloc_heap_new _ _
 have n2:w2.heap[w.heap.size+1+1]?=some (tkO t):=by
  have hx:=World.alloc_heap_new ((w.alloc exZ).alloc (tkO t)) (tkO t)
  rw [←hw2,show ((w.alloc exZ).alloc (tkO t)).heap.size=w.heap.size+1+1 by simp] at hx
  exact hx
 have hl2:w.heap.size+1+1<w2.heap.size:=(Array.getElem?_eq_some_iff.1 n2).1
 have HW2:Hid (w2=((w.alloc exZ).alloc (tkO t)).alloc (tkO t)):=hw2
 have HK2:Hid (Kept r w w2):=k2
 have HN0:Hid (w2.heap[w.heap.size]?=some exZ):=n0
 have HN2:Hid (w2.heap[w.heap.size+1+1]?=some (tkO t)):=n2
 have hk1':¬(t.k:Int)=1:=by omega
 have hk2':¬(t.k:Int)=2:=by omega
 have hk3':¬(t.k:Int)=3:=by omega
 clear h h0 hw2 k2 n0 n2
 go_enter Tryz.func177,Tryz.ntmps177
 go_wp2_with fail
 refine ch.mono ?_
 clear ch
 rintro e w1 ⟨rfl,rfl⟩
 simp only [tkV]
 have HKw2:Hid (Kept r w2 w2):=Kept.refl r w2
 have HRw2:Hid (RdAt r g o cap (t::ts) w2):=h2
 clear h2
 have cs:=rdSkip r g o cap t ts [116,114,117,101] w2 HRw2.out (fun hi=>(hE.tail (isTk_kind hi)).ne)
 rw [hiT] at cs
 go_wp2_with fail
 rw [←HW2.out]
 refine cs.mono ?_
 clear cs
 rintro e w3 ⟨rfl,hkx,hrx⟩
 have HKw3:Hid (Kept r w2 w3):=HKw2.out.trans hkx
 have HRw3:Hid (RdAt r g o cap (t::ts) w3):=show RdAt _ _ _ _ _ _ by simpa using hrx
 clear hkx hrx HKw2 HRw2
 clear HW2
 have cs:=rdSkip r g o cap t ts [102,97,108,115,101] w3 HRw3.out (fun hi=>(hE.tail (isTk_kind hi)).ne)
 rw [hiF] at cs
 go_wp2_with fail
 refine cs.mono ?_
 clear cs
 rintro e w4 ⟨rfl,hkx,hrx⟩
 have HKw4:Hid (Kept r w2 w4):=HKw3.out.trans hkx
 have HRw4:Hid (RdAt r g o cap (t::ts) w4):=show RdAt _ _ _ _ _ _ by simpa using hrx
 clear hkx hrx HKw3 HRw3
 have cs:=rdSkip r g o cap t ts [110,101,119] w4 HRw4.out (fun hi=>(hE.tail (isTk_kind hi)).ne)
 rw [hiN] at cs
 go_wp2_with fail
 refine cs.mono ?_
 clear cs
 rintro e w5 ⟨rfl,hkx,hrx⟩
 have HKw5:Hid (Kept r w2 w5):=HKw4.out.trans hkx
 have HRw5:Hid (RdAt r g o cap (t::ts) w5):=show RdAt _ _ _ _ _ _ by simpa using hrx
 clear hkx hrx HKw4 HRw4
 have cs:=rdSkip r g o cap t ts [91] w5 HRw5.out (fun hi=>(hE.tail (isTk_kind hi)).ne)
 rw [hiB] at cs
 go_wp2_with fail
 refine cs.mono ?_
 clear cs
 rintro e w6 ⟨rfl,hkx,hrx⟩
 have HKw6:Hid (Kept r w2 w6):=HKw5.out.trans hkx
 have HRw6:Hid (RdAt r g o cap (t::ts) w6):=show RdAt _ _ _ _ _ _ by simpa using hrx
 clear hkx hrx HKw5 HRw5
 have cn:=rdNeed r g o cap t ts [40] w6 HRw6.out (fun hi=>(hE.tail (isTk_kind hi)).ne)
 by_cases hi:isTk t [40]=true
 ·simp only [if_pos hi] at cn
  go_wp2_with fail
  refine cn.mono ?_
  clear cn
  rintro e w9 ⟨hkx,rfl,hr9⟩
  have k29:Kept r w2 w9:=HKw6.out.trans hkx
  have c9:=hex hi w9 _ _ hr9 (HK2.out.trans k29)
  have HK9:Hid (Kept r w2 w9):=k29
  clear hex hkx hr9 k29 HKw6 HRw6
  go_wp2_with fail
  refine c9.mono ?_
  clear c9
  rintro e w10 ⟨hk10,hpost⟩
  have HK10:Hid (Kept r w2 w10):=HK9.out.trans hk10
  rcases res with a | ⟨x,us⟩
  ·obtain rfl:=hpost
   obtain rfl:R=.error a:=by rw [←hres];unfold parenR;rw [if_pos hi]
   exact ⟨rfl,HK2.out.trans HK10.out,rfl⟩
  ·obtain ⟨v,o3,cap3,rfl,hx,hrd⟩:=hpost
   obtain ⟨a,b,c,d0,d1,d2,l,rfl⟩:=hx.agg
   have hE3:=hEnd x us rfl
   obtain ⟨t3,ts3,rfl⟩:=hE3.cons
   obtain ⟨w11,hw11⟩:∃w11,w11=w10.alloc (.cells #[.int .i64 a,.string b,.int .i64 c,.slice d0 d1 d2,.int .i64 l] 40):=⟨_,rfl⟩
   have h11:RdAt r g o3 cap3 (t3::ts3) w11:=by rw [hw11];exact hrd.alloc _
   have b11:w11.heap[w10.heap.size]?=some (.cells #[.int .i64 a,.string b,.int .i64 c,.slice d0 d1 d2,.int .i64 l] 40 (0,0)):=by rw [hw11];exact World.alloc_heap_new _ _
   have HK11:Hid (Kept r w2 w11):=show Kept _ _ _ by rw [hw11];exact HK10.out.alloc _
   have hx11:ExAt w9.heap.size w11 x (.agg #[.int .i64 a,.string b,.int .i64 c,.slice d0 d1 d2,.int .i64 l]):=by rw [hw11];exact ExAt.kept hx (by simp) fun k _ hlt=>Below.heap_alloc _ _ _ hlt
   have HX11:Hid (ExAt w9.heap.size w11 x (.agg #[.int .i64 a,.string b,.int .i64 c,.slice d0 d1 d2,.int .i64 l])):=hx11
   have HB11:Hid (w11.heap[w10.heap.size]?=some (.cells #[.int .i64 a,.string b,.int .i64 c,.slice d0 d1 d2,.int .i64 l] 40 (0,0))):=b11
   have cn:=rdNeed r g o3 cap3 t3 ts3 [41] w11 h11 (fun hi=>(hE3.tail (isTk_kind hi)).ne)
   have HW11:Hid (w11=w10.alloc (.cells #[.int .i64 a,.string b,.int .i64 c,.slice d0 d1 d2,.int .i64 l] 40)):=hw11
   have hs9:=HK9.out.size
   have hs10:=hk10.size
   have hlt11:w10.heap.size<w11.heap.size:=(Array.getElem?_eq_some_iff.1 b11).1
   clear hw11 h11 b11 hx11 hx hrd hk10
   by_cases hm:isTk t3 [41]=true
   ·simp only [if_pos hm] at cn
    obtain rfl:R=.ok (x,ts3):=by rw [←hres];unfold parenR;rw [if_pos hi];simp only [hdT_cons,hm,if_true,List.tail_cons]
    go_wp2_with fail
    rw [←HW11.out]
    refine cn.mono ?_
    clear cn HW11
    rintro e w12 ⟨hk12,rfl,hr12⟩
    have k12:=HK11.out.trans hk12
    have p0:=(k12.block _ (by omega) (by omega)).trans HN0.out
    have pB:=(hk12.block _ hlt11 (by omega)).trans HB11.out
    obtain ⟨c0,c1,c2,c3,c4,-⟩:=cells5 pB
    obtain ⟨q0,q1,q2,q3,q4,qf⟩:=cells5 p0
    obtain ⟨z0,z1,z2,z3,z4⟩:=set5_cells p0 (.int .i64 a) (.string b) (.int .i64 c) (.slice d0 d1 d2) (.int .i64 l)
    have hx12:ExAt w9.heap.size w12 x (.agg #[.int .i64 a,.string b,.int .i64 c,.slice d0 d1 d2,.int .i64 l]):=ExAt.kept HX11.out hk12.size fun k hB hlt=>hk12.block k hlt (by omega)
    have HP:Hid (PostE r g w (.ok (x,ts3)) (.returned (.agg #[.int .i64 a,.string b,.int .i64 c,.slice d0 d1 d2,.int .i64 l])) (set5 w12 w.heap.size (.int .i64 a) (.string b) (.int .i64 c) (.slice d0 d1 d2) (.int .i64 l))) :=
     PostE.of_set5' (HK2.out.trans k12) (Nat.le_refl _) hr hgw hx12 (by omega) hr12
    clear k12 hk12 hr12 p0 pB hx12
    go_wp2
    exact bodyPost_ret (v:=.agg #[.int .i64 a,.string b,.int .i64 c,.slice d0 d1 d2,.int .i64 l]) (by simp [results,Tryz.results177,go_sem,z0,z1,z2,z3,z4]) rfl HP.out
   ·simp only [if_neg hm] at cn
    obtain rfl:R=.error t3.at0:=by rw [←hres];unfold parenR;rw [if_pos hi];simp only [hdT_cons,if_neg hm]
    go_wp2_with fail
    rw [←HW11.out]
    refine cn.mono ?_
    clear cn
    rintro e w12 ⟨hk12,rfl⟩
    exact ⟨rfl,HK2.out.trans (HK11.out.trans hk12),rfl⟩
 ·simp only [if_neg hi] at cn
  obtain rfl:R=.error t.at0:=by rw [←hres];unfold parenR;rw [if_neg hi]
  clear hex hEnd
  go_wp2_with fail
  refine cn.mono ?_
  clear cn
  rintro e w9 ⟨hkx,rfl⟩
  exact ⟨rfl,HK2.out.trans (HKw6.out.trans hkx),rfl⟩
end Go.Proofs.YtghhamgealkodaaGreatDoor
