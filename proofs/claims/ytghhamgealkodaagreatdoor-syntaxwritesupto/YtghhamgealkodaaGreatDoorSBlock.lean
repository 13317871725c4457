import Derived.Test.YtghhamgealkodaaGreatDoorMC25
namespace Go.Proofs.YtghhamgealkodaaGreatDoor
open Go.RowKit Go.Shelf
set_option maxRecDepth 100000
def RowO {α:Type} (E:(Nat→Prop)→World→α→List Value→Prop) (sz ty B:Nat) (w:World) (l:List α) (v:Value):Prop :=
 (l=[]∧v=.slice none 0 0)∨∃g cap us,RowOwn E sz ty B w l v g cap us
theorem RowO.nil {α:Type} (E:(Nat→Prop)→World→α→List Value→Prop) (sz ty B:Nat) (w:World):RowO E sz ty B w [] (.slice none 0 0):=.inl ⟨rfl,rfl⟩
theorem RowO.kept {α:Type} {E:(Nat→Prop)→World→α→List Value→Prop} (L:ElemLaw E) {sz ty B:Nat} {w w':World} {l:List α} {v:Value} (h:RowO E sz ty B w l v) (hs:w.heap.size≤w'.heap.size) (hb:∀k,B≤k→k<w.heap.size→w'.heap[k]?=w.heap[k]?):RowO E sz ty B w' l v:=by
 rcases h with h | ⟨g,cap,us,h⟩
 ·exact .inl h
 ·exact .inr ⟨g,cap,us,h.kept L hs hb⟩
theorem RowO.slice {α:Type} {E:(Nat→Prop)→World→α→List Value→Prop} {sz ty B:Nat} {w:World} {l:List α} {v:Value} (h:RowO E sz ty B w l v):∃b c,v=.slice b l.length c:=by
 rcases h with ⟨rfl,rfl⟩ | ⟨g,cap,us,h⟩
 ·exact ⟨none,0,rfl⟩
 ·exact ⟨_,_,h.val⟩
theorem RowO.block {α:Type} {E:(Nat→Prop)→World→α→List Value→Prop} {sz ty B:Nat} {w:World} {l:List α} {v:Value} (h:RowO E sz ty B w l v):∀q,v.ownBlock=some q→B≤q∧q<w.heap.size:=by
 intro q hq
 rcases h with ⟨rfl,rfl⟩ | ⟨g,cap,us,h⟩
 ·simp [Value.ownBlock] at hq
 ·rw [h.val] at hq
  have e:g=q:=by simpa [Value.ownBlock] using hq
  subst e
  exact ⟨h.block.1,h.block.2.1⟩
theorem RowO.more {α:Type} {E:(Nat→Prop)→World→α→List Value→Prop} (L:ElemLaw E) {sz ty B:Nat} {w:World} {l:List α} {v:Value} (h:RowO E sz ty B w l v):∃us:List (List Value),w.ownsRow B ty sz v l.length us.flatten ∧
  ∀{w':World} {v':Value} {x:α} {c:List Value} {ob:Obj} {N:Nat},E (fun k=>N≤k) w x c→B≤N→(∀q,v.ownBlock=some q→q<N)→c.length=sz→w'.ownsRow B ty sz v' (l.length+1) (us.flatten++c)→(w.alloc ob).grownBy w' v.ownBlock→(v'.ownBlock=v.ownBlock∨v'.ownBlock=some (w.alloc ob).heap.size)→RowO E sz ty B w' (l++[x]) v':=by
 rcases h with ⟨rfl,rfl⟩ | ⟨g,cap,us,h⟩
 ·refine ⟨[],World.ownsRow_nil _ _ _ _,?_⟩
  intro w' v' x c ob N hx hBN _ hc ho hg ha
  simp only [List.flatten_nil,List.nil_append,List.length_nil,Nat.zero_add] at ho
  obtain ⟨g',cap',hv',hBg⟩:∃g' cap',v'=.slice (some ⟨g',0,none⟩) 1 cap'∧B≤g':=by
   rcases ho.2 with ⟨_,h0⟩ | ⟨g',cap',_,h1,h2,_⟩
   ·omega
   ·exact ⟨g',cap',h1,h2⟩
  have hg':g'=w.heap.size+1:=by
   rw [hv'] at ha
   simpa [Value.ownBlock] using ha
  have hs:w.heap.size≤w'.heap.size:=by have:=hg.size;simp at this;omega
  have hkeep:∀k,k<w.heap.size→w'.heap[k]?=w.heap[k]?:=fun k hlt=>(hg.block k (by simp;omega) (by simp [Value.ownBlock])).trans (Below.heap_alloc _ _ _ hlt)
  refine .inr ⟨g',cap',[c],⟨hv',by simp,by simpa using ho,rfl,by simpa using hc,fun j y d hy hd=>?_⟩⟩
  cases j with
  | succ j=>simp at hy
  | zero =>
   simp only [List.nil_append,List.getElem?_cons_zero,Option.some.injEq] at hy hd
   subst hy hd
   exact L.wide (L.kept (L.low hx) hs fun k hk _=>hkeep k hk.2) fun k hk=>⟨by omega,by omega⟩
 ·refine ⟨us,h.own,?_⟩
  intro w' v' x c ob N hx hBN hN hc ho hg ha
  have hgN:g<N:=hN g (by rw [h.val];rfl)
  obtain ⟨g',cap',h',-⟩:=h.snoc L (x:=x) (c:=c) (ob:=ob) (L.wide hx fun k hk=>⟨by omega,by omega⟩) hc ho hg ha
  exact .inr ⟨g',cap',_,h'⟩
theorem RowO.sts {ty B:Nat} {w:World} {l:List St} {v:Value} (h:RowO StE 6 ty B w l v):StsIn (fun k=>B≤k) w l v:=by
 rcases h with ⟨rfl,rfl⟩ | ⟨g,cap,us,h⟩
 ·exact StsIn.nil _ _
 ·exact h.sts
theorem RowIn.slice {S:Nat→Prop} {w:World} {l:List Ex} {v:Value} (h:RowIn S w l v):∃d0 d1 d2,v=.slice d0 d1 d2:=by
 rcases h with ⟨_,rfl⟩ | ⟨g,cap,us,rfl,_⟩
 ·exact ⟨_,_,_,rfl⟩
 ·exact ⟨_,_,_,rfl⟩
theorem StIn.agg {S:Nat→Prop} {w:World} {x:St} {v:Value} (h:StIn S w x v):∃(a:Int) (b:ByteArray) (e0:Option Addr) (e1 e2:Nat) (b0:Option Addr) (b1 b2:Nat) (l0:Option Addr) (l1 l2:Nat) (c:Int),v=.agg #[.int .i64 a,.string b,.slice e0 e1 e2,.slice b0 b1 b2,.slice l0 l1 l2,.int .i64 c]:=by
 cases h with
 | mk k s es body els line ve vb vl gb cb gl cl ub ul he hb hbk hl hlk =>
  obtain ⟨e0,e1,e2,rfl⟩:=he.slice
  obtain ⟨b0,b1,b2,rfl⟩:=StsIn.slice (S:=S) (w:=w) (l:=body) (v:=vb) ⟨gb,cb,ub,hb,hbk⟩
  obtain ⟨l0,l1,l2,rfl⟩:=StsIn.slice (S:=S) (w:=w) (l:=els) (v:=vl) ⟨gl,cl,ul,hl,hlk⟩
  exact ⟨_,_,_,_,_,_,_,_,_,_,_,_,rfl⟩
theorem info_stmt:(Tryz.prog.info? 117).map (fun i=>(i.zero,i.size,i.bytes))=some (some (.agg #[.int .i64 0,.string ⟨#[]⟩,.slice none 0 0,.slice none 0 0,.slice none 0 0,.int .i64 0]),6,104):=by kernel_rfl
theorem pStmt_up {f k:Nat} {ts:List Tk} {r:PR St} (h:pStmt f ts=some r):pStmt (f+k) ts=some r:=by
 induction k with
 | zero=>exact h
 | succ k ih=>exact (stmt_mono (f+k)).1 _ _ ih
theorem pStmt_len {f:Nat} {ts us:List Tk} {x:St} (h:pStmt f ts=some (.ok (x,us))) (hE:EndsT ts):us.length<ts.length:=by
 obtain ⟨f',r',h1,h2⟩:=(stmt_total ts.length ts (Nat.le_refl _) hE).1
 have a:=pStmt_up (k:=f') h
 have b:=h1 f
 rw [Nat.add_comm] at a
 have e:=Option.some.inj (a.symm.trans b)
 have:=(h2 x us e.symm).1
 have:=hE.pos
 omega
set_option maxHeartbeats 8000000 in
theorem rdBlock (r g o cap F:Nat) (ts:List Tk) (w:World) (res:PR (List St)) (h:RdAt r g o cap ts w) (hE:EndsT ts) (hp:pBlock (F+1) ts=some res)
  (hone:∀w1 o1 cap1 ts1 r1,pStmt F ts1=some r1→EndsT ts1→RdAt r g o1 cap1 ts1 w1→Kept r w w1→Calls Tryz.prog 145 #[.pointer (some ⟨r,0,none⟩)] w1 (PostS r g w1 r1)) :
  Calls Tryz.prog 113 #[.pointer (some ⟨r,0,none⟩)] w (PostSs r g w res):=by
 obtain ⟨i0,hi0,hz0,hz1,hz2⟩:=info_parts info_stmt
 have hN:=h.few
 obtain ⟨t0,ts0,rfl⟩:=hE.cons
 have hr:=h.lt.1
 have hgw:=h.lt.2
 rw [pBlock] at hp
 unfold needP at hp
 simp only [hdT_cons,List.tail_cons] at hp
 have cn:=rdNeed r g o cap t0 ts0 [123] w h (fun hi=>(hE.tail (isTk_kind hi)).ne)
 have HONE:Hid (∀w1 o1 cap1 ts1 r1,pStmt F ts1=some r1→EndsT ts1→RdAt r g o1 cap1 ts1 w1→Kept r w w1→Calls Tryz.prog 145 #[.pointer (some ⟨r,0,none⟩)] w1 (PostS r g w1 r1)):=hone
 clear h hone
 by_cases hi:isTk t0 [123]=true
 ·simp only [if_pos hi] at cn
  rw [if_pos hi] at hp
  simp only [thenP] at hp
  have hE1:=hE.tail (isTk_kind hi)
  go_enter Tryz.func113,Tryz.ntmps113
  go_wp2_with fail
  refine cn.mono ?_
  clear cn
  rintro e w1 ⟨hk1,rfl,h1⟩
  have HR1:Hid (RdAt r g (o+5) (cap-1) ts0 w1):=h1
  have HK1:Hid (Kept r w w1):=hk1
  have HP:Hid (pStmts F [] ts0=some res):=hp
  have HE1:Hid (EndsT ts0):=hE1
  have hn:ts0.length≤1099511627776:=by simp only [List.length_cons] at hN;omega
  clear h1 hk1 hp hE1 hE hN
  go_wp2_with fail
  go_loopw [3] (fun v wr=>∃(L:List St) (o2 cap2:Nat) (ts2:List Tk) (f2:Nat),f2≤F∧pStmts f2 L ts2=some res∧EndsT ts2∧L.length+ts2.length≤1099511627776∧RowO StE 6 117 w.heap.size wr L v∧RdAt r g o2 cap2 ts2 wr∧Kept r w wr) (fun _ wr=>leftR r wr)
  case atStart=>exact ⟨[],_,_,ts0,F,Nat.le_refl _,HP.out,HE1.out,by simpa using hn,RowO.nil _ _ _ _ _,HR1.out,HK1.out⟩
  case round =>
   obtain ⟨L,o2,cap2,ts2,f2,hf2,hT,hE2,hN2,hrow,hrd2,hk2⟩:=hrel
   clear HP HR1 HK1 HE1 hn
   obtain ⟨t2,ts3,rfl⟩:=hE2.cons
   have cs:=rdSkip r g o2 cap2 t2 ts3 [125] wr hrd2 (fun hi=>(hE2.tail (isTk_kind hi)).ne)
   have hleft:=hrd2.left
   have HROW:Hid (RowO StE 6 117 w.heap.size wr L _):=hrow
   have HK2:Hid (Kept r w wr):=hk2
   obtain ⟨lb,lc,hval⟩:=hrow.slice
   subst hval
   cases f2 with
   | zero=>simp [pStmts] at hT
   | succ f3 =>
   rw [pStmts] at hT
   simp only [hdT_cons,List.tail_cons] at hT
   by_cases hj:isTk t2 [125]=true
   ·rw [hj] at cs
    rw [if_pos hj] at hT
    clear hrow hk2 hrd2 hE2
    go_wp2_with fail
    refine cs.mono ?_
    clear cs
    rintro e w3 ⟨rfl,hk3,h3⟩
    have HK3:Hid (Kept r w w3):=HK2.out.trans hk3
    have HROW3:Hid (StsIn (fun k=>w.heap.size≤k) w3 L (.slice lb L.length lc)):=(HROW.out.kept stE_law hk3.size fun k hB hlt=>hk3.block k hlt (by omega)).sts
    have HR3:Hid (RdAt r g (o2+5) (cap2-1) ts3 w3):=show RdAt _ _ _ _ _ _ by simpa using h3
    simp only [Option.some.injEq] at hT
    subst hT
    clear hk3 h3
    go_wp2
    refine bodyPost_ret (v:=.slice lb L.length lc) (by simp [results,Tryz.results113,go_sem]) rfl ⟨HK3.out,_,_,_,rfl,HROW3.out,HR3.out⟩
   ·have hj':isTk t2 [125]=false:=by simpa using hj
    rw [hj'] at cs
    rw [if_neg hj] at hT
    cases hb3:pStmt f3 (t2::ts3) with
    | none=>rw [hb3] at hT;cases hT
    | some r3 =>
     rw [hb3] at hT
     simp only [thenP] at hT
     have hb4:pStmt F (t2::ts3)=some r3:=by
      have:=pStmt_up (k:=F-f3) hb3
      rwa [show f3+(F-f3)=F by omega] at this
     have HE2:Hid (EndsT (t2::ts3)):=hE2
     clear hrow hk2 hrd2 hE2 hb3
     go_wp2_with fail
     refine cs.mono ?_
     clear cs
     rintro e w3 ⟨rfl,hk3,h3⟩
     have h3':RdAt r g o2 cap2 (t2::ts3) w3:=by simpa using h3
     have hkk:Kept r w w3:=HK2.out.trans hk3
     have hrow3:=HROW.out.kept stE_law hk3.size fun k hB hlt=>hk3.block k hlt (by omega)
     have c3:=HONE.out w3 _ _ (t2::ts3) r3 hb4 HE2.out h3' hkk
     have HROW3:Hid (RowO StE 6 117 w.heap.size w3 L (.slice lb L.length lc)):=hrow3
     have HK3:Hid (Kept r w w3):=hkk
     clear h3 h3' hkk hk3 hrow3
     go_wp2_with fail
     refine c3.mono ?_
     clear c3
     rintro e w4 ⟨hk4,hpost⟩
     have HK4:Hid (Kept r w w4):=HK3.out.trans hk4
     rcases r3 with a | ⟨x3,us3⟩
     ·obtain rfl:=hpost
      simp only [Option.some.injEq] at hT
      subst hT
      exact ⟨rfl,HK4.out,rfl⟩
     ·obtain ⟨v,o4,cap4,rfl,hx,hrd⟩:=hpost
      obtain ⟨qa,qb,e0,e1,e2,b0,b1,b2,l0,l1,l2,qc,rfl⟩:=hx.agg
      have hrow4:=HROW3.out.kept stE_law hk4.size fun k hB hlt=>hk4.block k hlt (by omega)
      have hsz3:w.heap.size≤w3.heap.size:=HK3.out.size
      have hsz4:w.heap.size≤w4.heap.size:=HK4.out.size
      obtain ⟨us,hown,hnext⟩:=hrow4.more stE_law
      have HX4:Hid (StE (fun k=>w3.heap.size≤k) w4 x3 [.int .i64 qa,.string qb,.slice e0 e1 e2,.slice b0 b1 b2,.slice l0 l1 l2,.int .i64 qc]):=hx
      have HB3:Hid (∀q,(Value.slice lb L.length lc).ownBlock=some q→q<w3.heap.size):=fun q hq=>(HROW3.out.block q hq).2
      have HBB:Hid (∀q,(Value.slice lb L.length lc).ownBlock=some q→w.heap.size≤q):=fun q hq=>(HROW3.out.block q hq).1
      have HNX:Hid (∀{w':World} {v':Value} {x:St} {c:List Value} {ob:Obj} {N:Nat},StE (fun k=>N≤k) w4 x c→w.heap.size≤N→(∀q,(Value.slice lb L.length lc).ownBlock=some q→q<N)→c.length=6→w'.ownsRow w.heap.size 117 6 v' (L.length+1) (us.flatten++c)→(w4.alloc ob).grownBy w' (Value.slice lb L.length lc).ownBlock→(v'.ownBlock=(Value.slice lb L.length lc).ownBlock∨v'.ownBlock=some (w4.alloc ob).heap.size)→RowO StE 6 117 w.heap.size w' (L++[x]) v'):=hnext
      have HRD:Hid (RdAt r g o4 cap4 us3 w4):=hrd
      have hE5:=(stmt_ends F).1 _ _ _ hb4 HE2.out
      have hl5:=pStmt_len hb4 HE2.out
      have HOWN:=(hown.alloc (.cells #[.int .i64 qa,.string qb,.slice e0 e1 e2,.slice b0 b1 b2,.slice l0 l1 l2,.int .i64 qc] 117))
      have HT:Hid (pStmts f3 (L++[x3]) us3=some res):=hT
      have HE5:Hid (EndsT us3):=hE5
      clear hrow4 hx hrd hT hk4 hown hnext hE5
      go_wp2_with (at_builtin;refine wpList_append_own_at _ rfl _ _ 76 rfl w.heap.size 117 i0 _ 6 104 Tryz.underlying76 hi0 hz0 hz1 hz2 rfl (by decide) _ _ _ rfl HOWN ⟨w4.heap.size,0,none⟩ 1 1 [.int .i64 qa,.string qb,.slice e0 e1 e2,.slice b0 b1 b2,.slice l0 l1 l2,.int .i64 qc] rfl rfl (cells_new _ _ _) (by simp [Value.oneCell']) (by unfold maxLen;simp only [List.length_cons] at hN2;omega) (by simp only [List.length_cons] at hN2;omega) (by simp;omega) ?_;intro v' w5 hown' hgrow _ hat)
      have hrow5:=HNX.out (ob:=.cells #[.int .i64 qa,.string qb,.slice e0 e1 e2,.slice b0 b1 b2,.slice l0 l1 l2,.int .i64 qc] 117) HX4.out hsz3 HB3.out rfl hown' hgrow hat
      have hk5:Kept r w w5:=(HK4.out.alloc _).grown hgrow HBB.out
      have hr4:w.heap.size≤w4.heap.size:=HK4.out.size
      have hrd5:RdAt r g o4 cap4 us3 w5:=HRD.out.keep ((hgrow.block r (by simp;omega) (fun e=>by have:=HBB.out r e.symm;omega)).trans (Below.heap_alloc _ _ _ (by omega))) ((hgrow.block g (by simp;omega) (fun e=>by have:=HBB.out g e.symm;omega)).trans (Below.heap_alloc _ _ _ (by omega)))
      refine ⟨⟨L++[x3],o4,cap4,us3,f3,by omega,HT.out,HE5.out,?_,hrow5,hrd5,hk5⟩,?_⟩
      ·simp only [List.length_append,List.length_cons,List.length_nil] at hN2 hl5 ⊢;omega
      ·rw [hrd5.left,hleft];exact hl5
 ·simp only [if_neg hi] at cn
  rw [if_neg hi] at hp
  simp only [thenP,Option.some.injEq] at hp
  subst hp
  go_enter Tryz.func113,Tryz.ntmps113
  go_wp2_with fail
  refine cn.mono ?_
  clear cn
  rintro e w1 ⟨hk1,rfl⟩
  exact ⟨rfl,hk1,rfl⟩
end Go.Proofs.YtghhamgealkodaaGreatDoor
