import Derived.Test.YtghhamgealkodaaGreatDoorMC18
namespace Go.Proofs.YtghhamgealkodaaGreatDoor
open Go.RowKit Go.Shelf
set_option maxRecDepth 100000
structure Fc where
 name:List UInt8
 params:List Pm
 result:List UInt8
 body:List St
 line:Nat
def pParB (f:Nat) (ts:List Tk):Option (PR (List Pm)):=thenP (needP [40] ts) fun _ us=>if isTk (hdT us) [41]=true then some (.ok ([],us.tail)) else thenP (pParams f [] us) fun l us=>thenP (needP [41] us) fun _ us=>some (.ok (l,us))
def resP (ts:List Tk):Option (PR (List UInt8)):=if isTk (hdT ts) [58]=true then some (typeS 0 ts.tail) else some (.ok ([],ts))
def pFunc (f line:Nat) (ts:List Tk):Option (PR Fc):=thenP (nameP ts) fun s us=>thenP (pParB f us) fun l us=>thenP (resP us) fun t us=>thenP (pBlock f us) fun b us=>some (.ok (⟨s,l,t,b,line⟩,us))
def FcIn (B:Nat) (w:World) (x:Fc) (v:Value):Prop :=
 ∃vp vb,v=.agg #[.string (strB x.name),vp,.string (strB x.result),vb,.int .i64 (x.line:Int)]∧ParAt B w x.params vp∧StsIn (fun k=>B≤k) w x.body vb
abbrev fcO (a:ByteArray) (p:Value) (t:ByteArray) (b:Value) (l:Int):Obj:=.cells #[.string a,p,.string t,b,.int .i64 l] 78
abbrev fcZ:Obj:=fcO ⟨#[]⟩ (.slice none 0 0) ⟨#[]⟩ (.slice none 0 0) 0
def PostF (r g:Nat) (w:World) (res:PR Fc) (e:Ending) (w':World):Prop :=
 Kept r w w'∧match res with
  | .error a=>e=gaveUp a
  | .ok (x,ts)=>∃v o cap,e=.returned v∧FcIn w.heap.size w' x v∧RdAt r g o cap ts w'
theorem pParams_ends {f:Nat}:∀{pre l:List Pm} {ts us:List Tk},pParams f pre ts=some (.ok (l,us))→EndsT ts→EndsT us:=by
 induction f with
 | zero=>intro pre l ts us h;simp [pParams] at h
 | succ f ih =>
  intro pre l ts us h hE
  rw [pParams] at h
  cases hb:paramR ts with
  | error a=>rw [hb] at h;cases h
  | ok y =>
   obtain ⟨p,us1⟩:=y
   rw [hb] at h
   simp only at h
   have hE1:=(paramR_ends hb hE).1
   split at h
   ·rename_i hc;exact ih h (ends_is hE1 hc)
   ·exact okP_ends h hE1
theorem pParB_ends {f:Nat} {ts us:List Tk} {l:List Pm} (h:pParB f ts=some (.ok (l,us))) (hE:EndsT ts):EndsT us:=by
 unfold pParB at h
 obtain ⟨_,us1,h1,h⟩:=thenP_ok h
 have hE1:=needP_ends h1 hE
 split at h
 ·rename_i hc;exact okP_ends h (ends_is hE1 hc)
 ·obtain ⟨l2,us2,h2,h⟩:=thenP_ok h
  obtain ⟨_,us3,h3,h⟩:=thenP_ok h
  exact okP_ends h (needP_ends h3 (pParams_ends h2 hE1))
theorem resP_ends {ts us:List Tk} {s:List UInt8} (h:resP ts=some (.ok (s,us))) (hE:EndsT ts):EndsT us:=by
 unfold resP at h
 split at h
 ·rename_i hc
  simp only [Option.some.injEq] at h
  exact (typeS_ends _ _ _ _ h (ends_is hE hc)).1
 ·exact okP_ends h hE
theorem ParAt.keptR {r B:Nat} {w w':World} {l:List Pm} {v:Value} (h:ParAt B w l v) (hk:Kept r w w') (hB:r<B):ParAt B w' l v:=h.kept hk.size fun k hk' hlt=>hk.block k hlt (by omega)
theorem ParAt.setP {B P j:Nat} {w:World} {l:List Pm} {v:Value} (h:ParAt B w l v) (u:Value) (hP:P<B):ParAt B (w.setCell ⟨P,j,none⟩ u) l v:=h.kept (by simp) fun k hk _=>Below.heap_setCell _ _ _ _ (by simp;omega)
set_option maxHeartbeats 8000000 in
theorem rdFunc (r g o cap line F:Nat) (ts:List Tk) (w:World) (R:PR Fc) (h:RdAt r g o cap ts w) (hE:EndsT ts) (hp:pFunc F line ts=some R)
  (hpar:∀w1 o1 cap1 ts1 r1,pParB F ts1=some r1→EndsT ts1→RdAt r g o1 cap1 ts1 w1→Kept r w w1→Calls Tryz.prog 111 #[.pointer (some ⟨r,0,none⟩),.func (.func 110) #[.pointer (some ⟨r,0,none⟩)] #[]] w1 (PostB r g w1 r1))
  (hty:∀w1 o1 cap1 ts1,EndsT ts1→RdAt r g o1 cap1 ts1 w1→Kept r w w1→Calls Tryz.prog 112 #[.pointer (some ⟨r,0,none⟩)] w1 (PostT r g w1 (typeS 0 ts1)))
  (hbl:∀w1 o1 cap1 ts1 r1,pBlock F ts1=some r1→EndsT ts1→RdAt r g o1 cap1 ts1 w1→Kept r w w1→Calls Tryz.prog 113 #[.pointer (some ⟨r,0,none⟩)] w1 (PostSs r g w1 r1)) :
  Calls Tryz.prog 63 #[.pointer (some ⟨r,0,none⟩),.int .i64 (line:Int)] w (PostF r g w R):=by
 have hmf:∀(fn:Fn) (first cap:Array Value) (w:World),(Instr.makeFunc fn first cap).run Tryz.prog w=.ok (.func fn first cap) w:=fun _ _ _ _=>rfl
 obtain ⟨t0,ts0,rfl⟩:=hE.cons
 have hr:=h.lt.1
 have hgw:=h.lt.2
 obtain ⟨w0,hw0⟩:∃w0,w0=w.alloc fcZ:=⟨_,rfl⟩
 have h0:RdAt r g o cap (t0::ts0) w0:=by rw [hw0];exact h.alloc _
 have k0:Kept r w w0:=by rw [hw0];exact (Kept.refl r w).alloc _
 have b0:w0.heap[w.heap.size]?=some fcZ:=by rw [hw0];exact World.alloc_heap_new _ _
 have hs0:w0.heap.size=w.heap.size+1:=by rw [hw0];simp
 have cn:=rdName r g o cap t0 ts0 w0 h0 (fun hk=>(hE.tail (by omega)).ne)
 have HW0:Hid (w0=w.alloc fcZ):=hw0
 have HBL:Hid (∀w1 o1 cap1 ts1 r1,pBlock F ts1=some r1→EndsT ts1→RdAt r g o1 cap1 ts1 w1→Kept r w w1→Calls Tryz.prog 113 #[.pointer (some ⟨r,0,none⟩)] w1 (PostSs r g w1 r1)):=hbl
 have HTY:Hid (∀w1 o1 cap1 ts1,EndsT ts1→RdAt r g o1 cap1 ts1 w1→Kept r w w1→Calls Tryz.prog 112 #[.pointer (some ⟨r,0,none⟩)] w1 (PostT r g w1 (typeS 0 ts1))):=hty
 have HPAR:Hid (∀w1 o1 cap1 ts1 r1,pParB F ts1=some r1→EndsT ts1→RdAt r g o1 cap1 ts1 w1→Kept r w w1→Calls Tryz.prog 111 #[.pointer (some ⟨r,0,none⟩),.func (.func 110) #[.pointer (some ⟨r,0,none⟩)] #[]] w1 (PostB r g w1 r1)):=hpar
 unfold pFunc nameP at hp
 simp only [hdT_cons,List.tail_cons] at hp
 clear h h0 hw0 hbl hty hpar
 by_cases hk:t0.k=1
 ·simp only [if_pos hk] at cn
  rw [if_pos hk] at hp
  simp only [thenP] at hp
  have hE1:=hE.tail (by omega:t0.k≠0)
  go_enter Tryz.func63,Tryz.ntmps63
  go_wp2_with fail
  rw [←HW0.out]
  refine cn.mono ?_
  clear cn HW0
  rintro e w1 ⟨hk1,rfl,h1⟩
  obtain ⟨SB0,hSB0⟩:∃SB0,SB0=strB t0.s:=⟨_,rfl⟩
  rw [←hSB0]
  have HSB0:Hid (SB0=strB t0.s):=hSB0
  obtain ⟨w2,hw2⟩:∃w2,w2=w1.alloc (fcO SB0 (.slice none 0 0) ⟨#[]⟩ (.slice none 0 0) line):=⟨_,rfl⟩
  have hs1:=hk1.size
  have k2:Kept r w w2:=by rw [hw2];exact (k0.trans hk1).alloc _
  have b2:w2.heap[w.heap.size]?=some fcZ:=by rw [hw2];exact (Below.heap_alloc _ _ _ (by omega)).trans ((hk1.block _ (by omega) (by omega)).trans b0)
  obtain ⟨P,hP⟩:∃P,P=w1.heap.size:=⟨_,rfl⟩
  have p2:w2.heap[P]?=some (fcO SB0 (.slice none 0 0) ⟨#[]⟩ (.slice none 0 0) line):=by rw [hw2,hP];exact World.alloc_heap_new _ _
  have hs2:w2.heap.size=P+1:=by rw [hw2,hP];simp
  obtain ⟨t1,us1,rfl⟩:=hE1.cons
  have h2:RdAt r g (o+5) (cap-1) (t1::us1) w2:=by rw [hw2];exact h1.alloc _
  cases hb2:pParB F (t1::us1) with
  | none=>rw [hb2] at hp;cases hp
  | some r2 =>
   rw [hb2] at hp
   have cp:=HPAR.out w2 _ _ _ r2 hb2 hE1 h2 k2
   have HW2:Hid (w2=w1.alloc (fcO SB0 (.slice none 0 0) ⟨#[]⟩ (.slice none 0 0) line)):=hw2
   have HB2:Hid (w2.heap[w.heap.size]?=some fcZ∧w2.heap[P]?=some (fcO SB0 (.slice none 0 0) ⟨#[]⟩ (.slice none 0 0) line)):=⟨b2,p2⟩
   have HK2:Hid (Kept r w w2):=k2
   have HS:Hid (w.heap.size<P∧w2.heap.size=P+1):=⟨by omega,hs2⟩
   have HPP:Hid (w1.heap.size=P):=hP.symm
   clear hw2 k2 b2 p2 hs2 h2 h1 hk1 hs1 hP k0 b0 hs0 hSB0
   go_wp2_with fail
   rw [←HW2.out]
   rw [HPP.out]
   refine cp.mono ?_
   clear cp HW2
   rintro e w3 ⟨hk3,hpost⟩
   rcases r2 with a | ⟨pl,us2⟩
   ·obtain rfl:=hpost
    simp only [Option.some.injEq] at hp
    subst hp
    exact ⟨rfl,HK2.out.trans hk3,rfl⟩
   ·obtain ⟨vp,o3,cap3,rfl,hps,hrd3⟩:=hpost
    simp only at hp
    obtain ⟨c0,c1,c2,rfl⟩:=hps.slice
    have hE2:=pParB_ends hb2 hE1
    obtain ⟨t2,us3,rfl⟩:=hE2.cons
    have hS:=HS.out
    have hs3:=hk3.size
    have b3:=(hk3.block w.heap.size (by omega) (by omega)).trans HB2.out.1
    have p3:=(hk3.block P (by omega) (by omega)).trans HB2.out.2
    obtain ⟨-,m1,-,-,-,mf⟩:=cells5 p3
    have mf1:=mf 1
    obtain ⟨w4,hw4⟩:∃w4,w4=w3.setCell ⟨P,1,none⟩ (.slice c0 c1 c2):=⟨_,rfl⟩
    have p4:w4.heap[P]?=some (fcO SB0 (.slice c0 c1 c2) ⟨#[]⟩ (.slice none 0 0) line):=by rw [hw4];exact setCell_block _ p3
    have b4:w4.heap[w.heap.size]?=some fcZ:=by rw [hw4,Below.heap_setCell _ _ _ _ (by simp;omega)];exact b3
    have hz4:w4.heap.size=w3.heap.size:=by rw [hw4];simp
    have hrd4:RdAt r g o3 cap3 (t2::us3) w4:=by rw [hw4];exact hrd3.setP _ (by omega) (by omega)
    have k4:Kept r w w4:=by rw [hw4];exact (HK2.out.trans hk3).setOther (by simp;omega) _
    have hps4:ParAt w2.heap.size w4 pl (.slice c0 c1 c2):=by rw [hw4];exact hps.setP _ (by omega)
    have cs:=rdSkip r g o3 cap3 t2 us3 [58] w4 hrd4 (fun hi=>(hE2.tail (isTk_kind hi)).ne)
    have HB4:Hid (w4.heap[w.heap.size]?=some fcZ∧w4.heap[P]?=some (fcO SB0 (.slice c0 c1 c2) ⟨#[]⟩ (.slice none 0 0) line)):=⟨b4,p4⟩
    have HK4:Hid (Kept r w w4):=k4
    have HPS4:Hid (ParAt w2.heap.size w4 pl (.slice c0 c1 c2)):=hps4
    have hw4':=hw4.symm
    simp only [resP,hdT_cons,List.tail_cons] at hp
    clear hw4 p4 b4 hz4 hrd4 k4 hps4 hps hrd3 b3 p3 mf hk3 hs3 hS HB2 HK2
    by_cases hi:isTk t2 [58]=true
    ·rw [hi] at cs
     simp only [if_pos hi] at hp
     have hE3:=hE2.tail (isTk_kind hi)
     go_wp2_with fail
     refine cs.mono ?_
     clear cs hw4' m1 mf1
     rintro e w5 ⟨rfl,hk5,h5⟩
     have h5':RdAt r g (o3+5) (cap3-1) us3 w5:=by simpa using h5
     have ct:=HTY.out w5 _ _ us3 hE3 h5' (HK4.out.trans hk5)
     have HK45:Hid (Kept r w4 w5):=hk5
     clear h5 h5' hk5
     go_wp2_with fail
     refine ct.mono ?_
     clear ct
     rintro e w6 ⟨hk6,hpost⟩
     have HK46:Hid (Kept r w4 w6):=HK45.out.trans hk6
     cases hR6:typeS 0 us3 with
     | error a =>
      rw [hR6] at hpost hp
      obtain rfl:=hpost
      simp only [Option.some.injEq] at hp
      subst hp
      exact ⟨rfl,HK4.out.trans HK46.out,rfl⟩
     | ok y =>
      obtain ⟨ty,us4⟩:=y
      rw [hR6] at hpost hp
      obtain ⟨o6,cap6,rfl,hrd6⟩:=hpost
      simp only at hp
      have hE4:=(typeS_ends _ _ _ _ hR6 hE3).1
      obtain ⟨TY,hTY⟩:∃TY,TY=strB ty:=⟨_,rfl⟩
      rw [←hTY]
      have HTYB:Hid (TY=strB ty):=hTY
      have hS:=HS.out
      have hs6:=HK46.out.size
      have hP4:P<w4.heap.size:=(Array.getElem?_eq_some_iff.1 HB4.out.2).1
      have hN4:w.heap.size<w4.heap.size:=(Array.getElem?_eq_some_iff.1 HB4.out.1).1
      have b6:=(HK46.out.block w.heap.size hN4 (by omega)).trans HB4.out.1
      have p6:=(HK46.out.block P hP4 (by omega)).trans HB4.out.2
      have hps6:=HPS4.out.keptR HK46.out (by omega)
      obtain ⟨-,-,m2,-,-,mf⟩:=cells5 p6
      have mf2:=mf 2
      obtain ⟨w7,hw7⟩:∃w7,w7=w6.setCell ⟨P,2,none⟩ (.string TY):=⟨_,rfl⟩
      have p7:w7.heap[P]?=some (fcO SB0 (.slice c0 c1 c2) TY (.slice none 0 0) line):=by rw [hw7];exact setCell_block _ p6
      have b7:w7.heap[w.heap.size]?=some fcZ:=by rw [hw7,Below.heap_setCell _ _ _ _ (by simp;omega)];exact b6
      have hrd7:RdAt r g o6 cap6 us4 w7:=by rw [hw7];exact hrd6.setP _ (by omega) (by omega)
      have k7:Kept r w w7:=by rw [hw7];exact (HK4.out.trans HK46.out).setOther (by simp;omega) _
      have hps7:ParAt w2.heap.size w7 pl (.slice c0 c1 c2):=by rw [hw7];exact hps6.setP _ (by omega)
      have hw7':=hw7.symm
      clear hw7 p6 b6 hps6 hrd6 mf hs6 hP4 hN4 hS hTY hk6
      cases hb8:pBlock F us4 with
      | none=>rw [hb8] at hp;cases hp
      | some r8 =>
       rw [hb8] at hp
       have cb:=HBL.out w7 _ _ _ r8 hb8 hE4 hrd7 k7
       have HB7:Hid (w7.heap[w.heap.size]?=some fcZ∧w7.heap[P]?=some (fcO SB0 (.slice c0 c1 c2) TY (.slice none 0 0) line)):=⟨b7,p7⟩
       have HK7:Hid (Kept r w w7):=k7
       have HPS7:Hid (ParAt w2.heap.size w7 pl (.slice c0 c1 c2)):=hps7
       clear b7 p7 k7 hps7 hrd7
       go_wp2_with fail
       refine cb.mono ?_
       clear cb hw7' m2 mf2
       rintro e w8 ⟨hk8,hpost⟩
       rcases r8 with a | ⟨bl,us5⟩
       ·obtain rfl:=hpost
        simp only [Option.some.injEq] at hp
        subst hp
        exact ⟨rfl,HK7.out.trans hk8,rfl⟩
       ·obtain ⟨vb,o8,cap8,rfl,hbs,hrd8⟩:=hpost
        simp only [Option.some.injEq] at hp
        subst hp
        obtain ⟨d0,d1,d2,rfl⟩:=hbs.slice
        have hS:=HS.out
        have hs8:=hk8.size
        have hP7:P<w7.heap.size:=(Array.getElem?_eq_some_iff.1 HB7.out.2).1
        have hN7:w.heap.size<w7.heap.size:=(Array.getElem?_eq_some_iff.1 HB7.out.1).1
        have b8:=(hk8.block w.heap.size hN7 (by omega)).trans HB7.out.1
        have p8:=(hk8.block P hP7 (by omega)).trans HB7.out.2
        have hps8:=HPS7.out.keptR hk8 (by omega)
        obtain ⟨-,-,-,m3,-,mf⟩:=cells5 p8
        have mf3:=mf 3
        obtain ⟨w9,hw9⟩:∃w9,w9=w8.setCell ⟨P,3,none⟩ (.slice d0 d1 d2):=⟨_,rfl⟩
        have p9:w9.heap[P]?=some (fcO SB0 (.slice c0 c1 c2) TY (.slice d0 d1 d2) line):=by rw [hw9];exact setCell_block _ p8
        have b9:w9.heap[w.heap.size]?=some fcZ:=by rw [hw9,Below.heap_setCell _ _ _ _ (by simp;omega)];exact b8
        have hrd9:RdAt r g o8 cap8 us5 w9:=by rw [hw9];exact hrd8.setP _ (by omega) (by omega)
        have k9:Kept r w w9:=by rw [hw9];exact (HK7.out.trans hk8).setOther (by simp;omega) _
        have hps9:ParAt w2.heap.size w9 pl (.slice c0 c1 c2):=by rw [hw9];exact hps8.setP _ (by omega)
        have hbs9:StsIn (fun k=>w7.heap.size≤k) w9 bl (.slice d0 d1 d2):=by rw [hw9];exact hbs.setP _ fun k hk=>by omega
        obtain ⟨e0,e1,e2,e3,e4,-⟩:=cells5 p9
        obtain ⟨q0,q1,q2,q3,q4,qf⟩:=cells5 b9
        obtain ⟨z0,z1,z2,z3,z4⟩:=set5_cells b9 (.string SB0) (.slice c0 c1 c2) (.string TY) (.slice d0 d1 d2) (.int .i64 (line:Int))
        have HP:Hid (PostF r g w (.ok (⟨t0.s,pl,ty,bl,line⟩,us5)) (.returned (.agg #[.string SB0,.slice c0 c1 c2,.string TY,.slice d0 d1 d2,.int .i64 (line:Int)])) (set5 w9 w.heap.size (.string SB0) (.slice c0 c1 c2) (.string TY) (.slice d0 d1 d2) (.int .i64 (line:Int)))):=by
         have hkp:∀k,k≠w.heap.size→(set5 w9 w.heap.size (.string SB0) (.slice c0 c1 c2) (.string TY) (.slice d0 d1 d2) (.int .i64 (line:Int))).heap[k]?=w9.heap[k]?:=fun k hk=>set5_keep _ _ _ _ _ _ _ hk
         refine ⟨set5_kept k9 (Nat.le_refl _) _ _ _ _ _,_,o8,cap8,rfl,⟨_,_,by rw [HSB0.out,HTYB.out],(hps9.kept (by simp) fun k hk _=>hkp k (by omega)).mono (by omega),(hbs9.kept (by simp) fun k hk _=>hkp k (by omega)).wide fun k hk=>by omega⟩,hrd9.keep (hkp r (by omega)) (hkp g (by omega))⟩
        have hw9':=hw9.symm
        clear hw9 p9 b9 hrd9 k9 hps9 hbs9 b8 p8 hps8 mf hk8 hs8 hP7 hN7 hS hbs hrd8 HB7 HPS7 HK7
        go_wp2
        exact bodyPost_ret (v:=.agg #[.string SB0,.slice c0 c1 c2,.string TY,.slice d0 d1 d2,.int .i64 (line:Int)]) (by simp [results,Tryz.results63,go_sem,z0,z1,z2,z3,z4]) rfl HP.out
    ·have hi':isTk t2 [58]=false:=by simpa using hi
     rw [hi'] at cs
     simp only [if_neg hi] at hp
     go_wp2_with fail
     refine cs.mono ?_
     clear cs hw4' m1 mf1
     rintro e w7 ⟨rfl,hk7,h7⟩
     have hrd7:RdAt r g o3 cap3 (t2::us3) w7:=by simpa using h7
     have hS:=HS.out
     have hP4:P<w4.heap.size:=(Array.getElem?_eq_some_iff.1 HB4.out.2).1
     have hN4:w.heap.size<w4.heap.size:=(Array.getElem?_eq_some_iff.1 HB4.out.1).1
     have b7:=(hk7.block w.heap.size hN4 (by omega)).trans HB4.out.1
     have p7:=(hk7.block P hP4 (by omega)).trans HB4.out.2
     have k7:Kept r w w7:=HK4.out.trans hk7
     have hps7:=HPS4.out.keptR hk7 (by omega)
     have hE4:=hE2
     clear hP4 hN4 hS hk7 h7
     cases hb8:pBlock F (t2::us3) with
     | none=>rw [hb8] at hp;cases hp
     | some r8 =>
      rw [hb8] at hp
      have cb:=HBL.out w7 _ _ _ r8 hb8 hE4 hrd7 k7
      have HB7:Hid (w7.heap[w.heap.size]?=some fcZ∧w7.heap[P]?=some (fcO SB0 (.slice c0 c1 c2) ⟨#[]⟩ (.slice none 0 0) line)):=⟨b7,p7⟩
      have HK7:Hid (Kept r w w7):=k7
      have HPS7:Hid (ParAt w2.heap.size w7 pl (.slice c0 c1 c2)):=hps7
      clear b7 p7 k7 hps7 hrd7
      go_wp2_with fail
      refine cb.mono ?_
      clear cb
      rintro e w8 ⟨hk8,hpost⟩
      rcases r8 with a | ⟨bl,us5⟩
      ·obtain rfl:=hpost
       simp only [Option.some.injEq] at hp
       subst hp
       exact ⟨rfl,HK7.out.trans hk8,rfl⟩
      ·obtain ⟨vb,o8,cap8,rfl,hbs,hrd8⟩:=hpost
       simp only [Option.some.injEq] at hp
       subst hp
       obtain ⟨d0,d1,d2,rfl⟩:=hbs.slice
       have hS:=HS.out
       have hs8:=hk8.size
       have hP7:P<w7.heap.size:=(Array.getElem?_eq_some_iff.1 HB7.out.2).1
       have hN7:w.heap.size<w7.heap.size:=(Array.getElem?_eq_some_iff.1 HB7.out.1).1
       have b8:=(hk8.block w.heap.size hN7 (by omega)).trans HB7.out.1
       have p8:=(hk8.block P hP7 (by omega)).trans HB7.out.2
       have hps8:=HPS7.out.keptR hk8 (by omega)
       obtain ⟨-,-,-,m3,-,mf⟩:=cells5 p8
       have mf3:=mf 3
       obtain ⟨w9,hw9⟩:∃w9,w9=w8.setCell ⟨P,3,none⟩ (.slice d0 d1 d2):=⟨_,rfl⟩
       have p9:w9.heap[P]?=some (fcO SB0 (.slice c0 c1 c2) ⟨#[]⟩ (.slice d0 d1 d2) line):=by rw [hw9];exact setCell_block _ p8
       have b9:w9.heap[w.heap.size]?=some fcZ:=by rw [hw9,Below.heap_setCell _ _ _ _ (by simp;omega)];exact b8
       have hrd9:RdAt r g o8 cap8 us5 w9:=by rw [hw9];exact hrd8.setP _ (by omega) (by omega)
       have k9:Kept r w w9:=by rw [hw9];exact (HK7.out.trans hk8).setOther (by simp;omega) _
       have hps9:ParAt w2.heap.size w9 pl (.slice c0 c1 c2):=by rw [hw9];exact hps8.setP _ (by omega)
       have hbs9:StsIn (fun k=>w7.heap.size≤k) w9 bl (.slice d0 d1 d2):=by rw [hw9];exact hbs.setP _ fun k hk=>by omega
       obtain ⟨e0,e1,e2,e3,e4,-⟩:=cells5 p9
       obtain ⟨q0,q1,q2,q3,q4,qf⟩:=cells5 b9
       obtain ⟨z0,z1,z2,z3,z4⟩:=set5_cells b9 (.string SB0) (.slice c0 c1 c2) (.string ⟨#[]⟩) (.slice d0 d1 d2) (.int .i64 (line:Int))
       have HP:Hid (PostF r g w (.ok (⟨t0.s,pl,[],bl,line⟩,us5)) (.returned (.agg #[.string SB0,.slice c0 c1 c2,.string ⟨#[]⟩,.slice d0 d1 d2,.int .i64 (line:Int)])) (set5 w9 w.heap.size (.string SB0) (.slice c0 c1 c2) (.string ⟨#[]⟩) (.slice d0 d1 d2) (.int .i64 (line:Int)))):=by
        have hkp:∀k,k≠w.heap.size→(set5 w9 w.heap.size (.string SB0) (.slice c0 c1 c2) (.string ⟨#[]⟩) (.slice d0 d1 d2) (.int .i64 (line:Int))).heap[k]?=w9.heap[k]?:=fun k hk=>set5_keep _ _ _ _ _ _ _ hk
        refine ⟨set5_kept k9 (Nat.le_refl _) _ _ _ _ _,_,o8,cap8,rfl,⟨_,_,by rw [HSB0.out],(hps9.kept (by simp) fun k hk _=>hkp k (by omega)).mono (by omega),(hbs9.kept (by simp) fun k hk _=>hkp k (by omega)).wide fun k hk=>by omega⟩,hrd9.keep (hkp r (by omega)) (hkp g (by omega))⟩
       have hw9':=hw9.symm
       clear hw9 p9 b9 hrd9 k9 hps9 hbs9 b8 p8 hps8 mf hk8 hs8 hP7 hN7 hS hbs hrd8 HB7 HPS7 HK7
       go_wp2
       exact bodyPost_ret (v:=.agg #[.string SB0,.slice c0 c1 c2,.string ⟨#[]⟩,.slice d0 d1 d2,.int .i64 (line:Int)]) (by simp [results,Tryz.results63,go_sem,z0,z1,z2,z3,z4]) rfl HP.out
 ·simp only [if_neg hk] at cn
  rw [if_neg hk] at hp
  simp only [thenP,Option.some.injEq] at hp
  subst hp
  go_enter Tryz.func63,Tryz.ntmps63
  go_wp2_with fail
  rw [←HW0.out]
  refine cn.mono ?_
  clear cn
  rintro e w1 ⟨hk1,rfl⟩
  exact ⟨rfl,k0.trans hk1,rfl⟩
end Go.Proofs.YtghhamgealkodaaGreatDoor
