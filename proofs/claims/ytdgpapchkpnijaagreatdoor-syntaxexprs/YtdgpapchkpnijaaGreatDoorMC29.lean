import Derived.Test.YtdgpapchkpnijaaGreatDoorMC20
namespace Go.Proofs.YtdgpapchkpnijaaGreatDoor
open Go.RowKit Go.Shelf
set_option maxHeartbeats 16000000
set_option maxRecDepth 100000
structure Fc where
 name:List UInt8
 params:List Pm
 result:List UInt8
 body:List St
 line:Nat
def xA (f:Nat) (ts:List Tk):Option (PR (List Pm)):=zn (zV [40] ts) fun _ us=>if zo (zz us) [41]=true then some (.ok ([],us.tail)) else zn (Zl f [] us) fun l us=>zn (zV [41] us) fun _ us=>some (.ok (l,us))
def uB (ts:List Tk):Option (PR (List UInt8)):=if zo (zz ts) [58]=true then some (YI 0 ts.tail) else some (.ok ([],ts))
def Ym (f line:Nat) (ts:List Tk):Option (PR Fc):=zn (yB ts) fun s us=>zn (xA f us) fun l us=>zn (uB us) fun t us=>zn (Zb f us) fun b us=>some (.ok (⟨s,l,t,b,line⟩,us))
def zf4 (B:Nat) (w:World) (x:Fc) (v:Value):Prop :=
 ∃vp vb,v=.agg #[.string (za x.name),vp,.string (za x.result),vb,.int .i64 (x.line:Int)]∧Z1 B w x.params vp∧zZ (fun k=>B≤k) w x.body vb
abbrev fcO (a:ByteArray) (p:Value) (t:ByteArray) (b:Value) (l:Int):Obj:=.cells #[.string a,p,.string t,b,.int .i64 l] 75
abbrev fcZ:Obj:=fcO ⟨#[]⟩ (.slice none 0 0) ⟨#[]⟩ (.slice none 0 0) 0
def uC (r g:Nat) (w:World) (res:PR Fc) (e:Ending) (w':World):Prop :=
 zb r w w'∧match res with
  | .error a=>e=ZF a
  | .ok (x,ts)=>∃v o cap,e=.returned v∧zf4 w.heap.size w' x v∧zg r g o cap ts w'
theorem YY {f:Nat}:∀{pre l:List Pm} {ts us:List Tk},Zl f pre ts=some (.ok (l,us))→zk ts→zk us:=by
 induction f with
 | zero=>intro pre l ts us h;simp [Zl] at h
 | succ f ih =>
  intro pre l ts us h hE;rw [Zl] at h;cases hb:Yj ts with
  | error a=>rw [hb] at h;cases h
  | ok y =>
   obtain ⟨p,us1⟩:=y;rw [hb] at h;simp only at h;have hE1:=(xx hb hE).1
   split at h
   ·rename_i hc;exact ih h (zU hE1 hc)
   ·exact z8 h hE1
theorem vD {f:Nat} {ts us:List Tk} {l:List Pm} (h:xA f ts=some (.ok (l,us))) (hE:zk ts):zk us:=by
 unfold xA at h
 obtain ⟨_,us1,h1,h⟩:=zd h;have hE1:=Zj h1 hE
 split at h
 ·rename_i hc;exact z8 h (zU hE1 hc)
 ·obtain ⟨l2,us2,h2,h⟩:=zd h
  obtain ⟨_,us3,h3,h⟩:=zd h;exact z8 h (Zj h3 (YY h2 hE1))
theorem zb3 {ts us:List Tk} {s:List UInt8} (h:uB ts=some (.ok (s,us))) (hE:zk ts):zk us:=by
 unfold uB at h
 split at h
 ·rename_i hc
  simp only [Option.some.injEq] at h;exact (Yu _ _ _ _ h (zU hE hc)).1
 ·exact z8 h hE
theorem Z1.keptR {r B:Nat} {w w':World} {l:List Pm} {v:Value} (h:Z1 B w l v) (hk:zb r w w') (hB:r<B):Z1 B w' l v:=h.kept hk.size fun k hk' hlt=>hk.block k hlt (by omega)
theorem Z1.setP {B P j:Nat} {w:World} {l:List Pm} {v:Value} (h:Z1 B w l v) (u:Value) (hP:P<B):Z1 B (w.setCell ⟨P,j,none⟩ u) l v:=h.kept (by simp) fun k hk _=>Below.heap_setCell _ _ _ _ (by simp;omega)
theorem zeW (r g o cap line F:Nat) (ts:List Tk) (w:World) (R:PR Fc) (h:zg r g o cap ts w) (hE:zk ts) (hp:Ym F line ts=some R)
  (hpar:∀w1 o1 cap1 ts1 r1,xA F ts1=some r1→zk ts1→zg r g o1 cap1 ts1 w1→zb r w w1→Calls Tryz.prog 105 #[.pointer (some ⟨r,0,none⟩),.func (.func 104) #[.pointer (some ⟨r,0,none⟩)] #[]] w1 (zbh r g w1 r1))
  (hty:∀w1 o1 cap1 ts1,zk ts1→zg r g o1 cap1 ts1 w1→zb r w w1→Calls Tryz.prog 106 #[.pointer (some ⟨r,0,none⟩)] w1 (Qo r g w1 (YI 0 ts1)))
  (hbl:∀w1 o1 cap1 ts1 r1,Zb F ts1=some r1→zk ts1→zg r g o1 cap1 ts1 w1→zb r w w1→Calls Tryz.prog 107 #[.pointer (some ⟨r,0,none⟩)] w1 (XD r g w1 r1)) :
  Calls Tryz.prog 60 #[.pointer (some ⟨r,0,none⟩),.int .i64 (line:Int)] w (uC r g w R):=by
 have hmf:∀(fn:Fn) (first cap:Array Value) (w:World),(Instr.makeFunc fn first cap).run Tryz.prog w=.ok (.func fn first cap) w:=fun _ _ _ _=>rfl
 obtain ⟨t0,ts0,rfl⟩:=hE.cons;have hr:=h.lt.1;have hgw:=h.lt.2;obtain ⟨w0,hw0⟩:∃w0,w0=w.alloc fcZ:=⟨_,rfl⟩;have h0:zg r g o cap (t0::ts0) w0:=by rw [hw0];exact h.alloc _
 have k0:zb r w w0:=by rw [hw0];exact (zb.refl r w).alloc _
 have b0:w0.heap[w.heap.size]?=some fcZ:=by rw [hw0];exact World.alloc_heap_new _ _
 have hs0:w0.heap.size=w.heap.size+1:=by rw [hw0];simp
 have cn:=xe r g o cap t0 ts0 w0 h0 (fun hk=>(hE.tail (by omega)).ne)
 have HW0:Hid (w0=w.alloc fcZ):=hw0;have HBL:Hid (∀w1 o1 cap1 ts1 r1,Zb F ts1=some r1→zk ts1→zg r g o1 cap1 ts1 w1→zb r w w1→Calls Tryz.prog 107 #[.pointer (some ⟨r,0,none⟩)] w1 (XD r g w1 r1)):=hbl;have HTY:Hid (∀w1 o1 cap1 ts1,zk ts1→zg r g o1 cap1 ts1 w1→zb r w w1→Calls Tryz.prog 106 #[.pointer (some ⟨r,0,none⟩)] w1 (Qo r g w1 (YI 0 ts1))):=hty;have HPAR:Hid (∀w1 o1 cap1 ts1 r1,xA F ts1=some r1→zk ts1→zg r g o1 cap1 ts1 w1→zb r w w1→Calls Tryz.prog 105 #[.pointer (some ⟨r,0,none⟩),.func (.func 104) #[.pointer (some ⟨r,0,none⟩)] #[]] w1 (zbh r g w1 r1)):=hpar
 unfold Ym yB at hp
 simp only [zC,List.tail_cons] at hp;clear h h0 hw0 hbl hty hpar
 by_cases hk:t0.k=1
 ·simp only [if_pos hk] at cn
  rw [if_pos hk] at hp;simp only [zn] at hp;have hE1:=hE.tail (by omega:t0.k≠0)
  go_enter Tryz.func60,Tryz.ntmps60
  go_wp2_with fail
  rw [←HW0.out];refine cn.mono ?_;clear cn HW0;rintro e w1 ⟨hk1,rfl,h1⟩;obtain ⟨SB0,hSB0⟩:∃SB0,SB0=za t0.s:=⟨_,rfl⟩;rw [←hSB0];have HSB0:Hid (SB0=za t0.s):=hSB0;obtain ⟨w2,hw2⟩:∃w2,w2=w1.alloc (fcO SB0 (.slice none 0 0) ⟨#[]⟩ (.slice none 0 0) line):=⟨_,rfl⟩;have hs1:=hk1.size;have k2:zb r w w2:=by rw [hw2];exact (k0.trans hk1).alloc _
  have b2:w2.heap[w.heap.size]?=some fcZ:=by rw [hw2];exact (Below.heap_alloc _ _ _ (by omega)).trans ((hk1.block _ (by omega) (by omega)).trans b0)
  obtain ⟨P,hP⟩:∃P,P=w1.heap.size:=⟨_,rfl⟩;have p2:w2.heap[P]?=some (fcO SB0 (.slice none 0 0) ⟨#[]⟩ (.slice none 0 0) line):=by rw [hw2,hP];exact World.alloc_heap_new _ _
  have hs2:w2.heap.size=P+1:=by rw [hw2,hP];simp
  obtain ⟨t1,us1,rfl⟩:=hE1.cons;have h2:zg r g (o+5) (cap-1) (t1::us1) w2:=by rw [hw2];exact h1.alloc _
  cases hb2:xA F (t1::us1) with
  | none=>rw [hb2] at hp;cases hp
  | some r2 =>
   rw [hb2] at hp;have cp:=HPAR.out w2 _ _ _ r2 hb2 hE1 h2 k2;have HW2:Hid (w2=w1.alloc (fcO SB0 (.slice none 0 0) ⟨#[]⟩ (.slice none 0 0) line)):=hw2;have HB2:Hid (w2.heap[w.heap.size]?=some fcZ∧w2.heap[P]?=some (fcO SB0 (.slice none 0 0) ⟨#[]⟩ (.slice none 0 0) line)):=⟨b2,p2⟩;have HK2:Hid (zb r w w2):=k2;have HS:Hid (w.heap.size<P∧w2.heap.size=P+1):=⟨by omega,hs2⟩
   have HPP:Hid (w1.heap.size=P):=hP.symm;clear hw2 k2 b2 p2 hs2 h2 h1 hk1 hs1 hP k0 b0 hs0 hSB0;go_wp2_with fail
   rw [←HW2.out];rw [HPP.out];refine cp.mono ?_;clear cp HW2;rintro e w3 ⟨hk3,hpost⟩;rcases r2 with a | ⟨pl,us2⟩
   ·obtain rfl:=hpost
    simp only [Option.some.injEq] at hp;subst hp;exact ⟨rfl,HK2.out.trans hk3,rfl⟩
   ·obtain ⟨vp,o3,cap3,rfl,hps,hrd3⟩:=hpost
    simp only at hp;obtain ⟨c0,c1,c2,rfl⟩:=hps.slice;have hE2:=vD hb2 hE1;obtain ⟨t2,us3,rfl⟩:=hE2.cons;have hS:=HS.out;have hs3:=hk3.size;have b3:=(hk3.block w.heap.size (by omega) (by omega)).trans HB2.out.1
    have p3:=(hk3.block P (by omega) (by omega)).trans HB2.out.2
    obtain ⟨-,m1,-,-,-,mf⟩:=zl p3;have mf1:=mf 1;obtain ⟨w4,hw4⟩:∃w4,w4=w3.setCell ⟨P,1,none⟩ (.slice c0 c1 c2):=⟨_,rfl⟩;have p4:w4.heap[P]?=some (fcO SB0 (.slice c0 c1 c2) ⟨#[]⟩ (.slice none 0 0) line):=by rw [hw4];exact zp _ p3
    have b4:w4.heap[w.heap.size]?=some fcZ:=by rw [hw4,Below.heap_setCell _ _ _ _ (by simp;omega)];exact b3
    have hz4:w4.heap.size=w3.heap.size:=by rw [hw4];simp
    have hrd4:zg r g o3 cap3 (t2::us3) w4:=by rw [hw4];exact hrd3.setP _ (by omega) (by omega)
    have k4:zb r w w4:=by rw [hw4];exact (HK2.out.trans hk3).setOther (by simp;omega) _
    have hps4:Z1 w2.heap.size w4 pl (.slice c0 c1 c2):=by rw [hw4];exact hps.setP _ (by omega)
    have cs:=Zu r g o3 cap3 t2 us3 [58] w4 hrd4 (fun hi=>(hE2.tail (zi hi)).ne)
    have HB4:Hid (w4.heap[w.heap.size]?=some fcZ∧w4.heap[P]?=some (fcO SB0 (.slice c0 c1 c2) ⟨#[]⟩ (.slice none 0 0) line)):=⟨b4,p4⟩;have HK4:Hid (zb r w w4):=k4;have HPS4:Hid (Z1 w2.heap.size w4 pl (.slice c0 c1 c2)):=hps4;have hw4':=hw4.symm;simp only [uB,zC,List.tail_cons] at hp;clear hw4 p4 b4 hz4 hrd4 k4 hps4 hps hrd3 b3 p3 mf hk3 hs3 hS HB2 HK2
    by_cases hi:zo t2 [58]=true
    ·rw [hi] at cs
     simp only [if_pos hi] at hp;have hE3:=hE2.tail (zi hi);go_wp2_with fail
     refine cs.mono ?_;clear cs hw4' m1 mf1;rintro e w5 ⟨rfl,hk5,h5⟩;have h5':zg r g (o3+5) (cap3-1) us3 w5:=by simpa using h5
     have ct:=HTY.out w5 _ _ us3 hE3 h5' (HK4.out.trans hk5);have HK45:Hid (zb r w4 w5):=hk5;clear h5 h5' hk5;go_wp2_with fail
     refine ct.mono ?_;clear ct;rintro e w6 ⟨hk6,hpost⟩;have HK46:Hid (zb r w4 w6):=HK45.out.trans hk6;cases hR6:YI 0 us3 with
     | error a =>
      rw [hR6] at hpost hp;obtain rfl:=hpost;simp only [Option.some.injEq] at hp;subst hp;exact ⟨rfl,HK4.out.trans HK46.out,rfl⟩
     | ok y =>
      obtain ⟨ty,us4⟩:=y;rw [hR6] at hpost hp;obtain ⟨o6,cap6,rfl,hrd6⟩:=hpost;simp only at hp;have hE4:=(Yu _ _ _ _ hR6 hE3).1;obtain ⟨TY,hTY⟩:∃TY,TY=za ty:=⟨_,rfl⟩;rw [←hTY];have HTYB:Hid (TY=za ty):=hTY;have hS:=HS.out;have hs6:=HK46.out.size;have hP4:P<w4.heap.size:=(Array.getElem?_eq_some_iff.1 HB4.out.2).1;have hN4:w.heap.size<w4.heap.size:=(Array.getElem?_eq_some_iff.1 HB4.out.1).1;have b6:=(HK46.out.block w.heap.size hN4 (by omega)).trans HB4.out.1
      have p6:=(HK46.out.block P hP4 (by omega)).trans HB4.out.2
      have hps6:=HPS4.out.keptR HK46.out (by omega)
      obtain ⟨-,-,m2,-,-,mf⟩:=zl p6;have mf2:=mf 2;obtain ⟨w7,hw7⟩:∃w7,w7=w6.setCell ⟨P,2,none⟩ (.string TY):=⟨_,rfl⟩;have p7:w7.heap[P]?=some (fcO SB0 (.slice c0 c1 c2) TY (.slice none 0 0) line):=by rw [hw7];exact zp _ p6
      have b7:w7.heap[w.heap.size]?=some fcZ:=by rw [hw7,Below.heap_setCell _ _ _ _ (by simp;omega)];exact b6
      have hrd7:zg r g o6 cap6 us4 w7:=by rw [hw7];exact hrd6.setP _ (by omega) (by omega)
      have k7:zb r w w7:=by rw [hw7];exact (HK4.out.trans HK46.out).setOther (by simp;omega) _
      have hps7:Z1 w2.heap.size w7 pl (.slice c0 c1 c2):=by rw [hw7];exact hps6.setP _ (by omega)
      have hw7':=hw7.symm;clear hw7 p6 b6 hps6 hrd6 mf hs6 hP4 hN4 hS hTY hk6;cases hb8:Zb F us4 with
      | none=>rw [hb8] at hp;cases hp
      | some r8 =>
       rw [hb8] at hp;have cb:=HBL.out w7 _ _ _ r8 hb8 hE4 hrd7 k7;have HB7:Hid (w7.heap[w.heap.size]?=some fcZ∧w7.heap[P]?=some (fcO SB0 (.slice c0 c1 c2) TY (.slice none 0 0) line)):=⟨b7,p7⟩;have HK7:Hid (zb r w w7):=k7;have HPS7:Hid (Z1 w2.heap.size w7 pl (.slice c0 c1 c2)):=hps7;clear b7 p7 k7 hps7 hrd7;go_wp2_with fail
       refine cb.mono ?_;clear cb hw7' m2 mf2;rintro e w8 ⟨hk8,hpost⟩;rcases r8 with a | ⟨bl,us5⟩
       ·obtain rfl:=hpost
        simp only [Option.some.injEq] at hp;subst hp;exact ⟨rfl,HK7.out.trans hk8,rfl⟩
       ·obtain ⟨vb,o8,cap8,rfl,hbs,hrd8⟩:=hpost
        simp only [Option.some.injEq] at hp;subst hp;obtain ⟨d0,d1,d2,rfl⟩:=hbs.slice;have hS:=HS.out;have hs8:=hk8.size;have hP7:P<w7.heap.size:=(Array.getElem?_eq_some_iff.1 HB7.out.2).1;have hN7:w.heap.size<w7.heap.size:=(Array.getElem?_eq_some_iff.1 HB7.out.1).1;have b8:=(hk8.block w.heap.size hN7 (by omega)).trans HB7.out.1
        have p8:=(hk8.block P hP7 (by omega)).trans HB7.out.2
        have hps8:=HPS7.out.keptR hk8 (by omega)
        obtain ⟨-,-,-,m3,-,mf⟩:=zl p8;have mf3:=mf 3;obtain ⟨w9,hw9⟩:∃w9,w9=w8.setCell ⟨P,3,none⟩ (.slice d0 d1 d2):=⟨_,rfl⟩;have p9:w9.heap[P]?=some (fcO SB0 (.slice c0 c1 c2) TY (.slice d0 d1 d2) line):=by rw [hw9];exact zp _ p8
        have b9:w9.heap[w.heap.size]?=some fcZ:=by rw [hw9,Below.heap_setCell _ _ _ _ (by simp;omega)];exact b8
        have hrd9:zg r g o8 cap8 us5 w9:=by rw [hw9];exact hrd8.setP _ (by omega) (by omega)
        have k9:zb r w w9:=by rw [hw9];exact (HK7.out.trans hk8).setOther (by simp;omega) _
        have hps9:Z1 w2.heap.size w9 pl (.slice c0 c1 c2):=by rw [hw9];exact hps8.setP _ (by omega)
        have hbs9:zZ (fun k=>w7.heap.size≤k) w9 bl (.slice d0 d1 d2):=by rw [hw9];exact hbs.setP _ fun k hk=>by omega
        obtain ⟨e0,e1,e2,e3,e4,-⟩:=zl p9;obtain ⟨q0,q1,q2,q3,q4,qf⟩:=zl b9;obtain ⟨z0,z1,z2,z3,z4⟩:=zt b9 (.string SB0) (.slice c0 c1 c2) (.string TY) (.slice d0 d1 d2) (.int .i64 (line:Int))
        have HP:Hid (uC r g w (.ok (⟨t0.s,pl,ty,bl,line⟩,us5)) (.returned (.agg #[.string SB0,.slice c0 c1 c2,.string TY,.slice d0 d1 d2,.int .i64 (line:Int)])) (set5 w9 w.heap.size (.string SB0) (.slice c0 c1 c2) (.string TY) (.slice d0 d1 d2) (.int .i64 (line:Int)))):=by
         have hkp:∀k,k≠w.heap.size→(set5 w9 w.heap.size (.string SB0) (.slice c0 c1 c2) (.string TY) (.slice d0 d1 d2) (.int .i64 (line:Int))).heap[k]?=w9.heap[k]?:=fun k hk=>zr _ _ _ _ _ _ _ hk
         refine ⟨ZM k9 (Nat.le_refl _) _ _ _ _ _,_,o8,cap8,rfl,⟨_,_,by rw [HSB0.out,HTYB.out],(hps9.kept (by simp) fun k hk _=>hkp k (by omega)).mono (by omega),(hbs9.kept (by simp) fun k hk _=>hkp k (by omega)).wide fun k hk=>by omega⟩,hrd9.keep (hkp r (by omega)) (hkp g (by omega))⟩
        have hw9':=hw9.symm;clear hw9 p9 b9 hrd9 k9 hps9 hbs9 b8 p8 hps8 mf hk8 hs8 hP7 hN7 hS hbs hrd8 HB7 HPS7 HK7;go_wp2
        exact bodyPost_ret (v:=.agg #[.string SB0,.slice c0 c1 c2,.string TY,.slice d0 d1 d2,.int .i64 (line:Int)]) (by simp [results,Tryz.results60,go_sem,z0,z1,z2,z3,z4]) rfl HP.out
    ·have hi':zo t2 [58]=false:=by simpa using hi
     rw [hi'] at cs;simp only [if_neg hi] at hp;go_wp2_with fail
     refine cs.mono ?_;clear cs hw4' m1 mf1;rintro e w7 ⟨rfl,hk7,h7⟩;have hrd7:zg r g o3 cap3 (t2::us3) w7:=by simpa using h7
     have hS:=HS.out;have hP4:P<w4.heap.size:=(Array.getElem?_eq_some_iff.1 HB4.out.2).1;have hN4:w.heap.size<w4.heap.size:=(Array.getElem?_eq_some_iff.1 HB4.out.1).1;have b7:=(hk7.block w.heap.size hN4 (by omega)).trans HB4.out.1
     have p7:=(hk7.block P hP4 (by omega)).trans HB4.out.2
     have k7:zb r w w7:=HK4.out.trans hk7;have hps7:=HPS4.out.keptR hk7 (by omega)
     have hE4:=hE2;clear hP4 hN4 hS hk7 h7;cases hb8:Zb F (t2::us3) with
     | none=>rw [hb8] at hp;cases hp
     | some r8 =>
      rw [hb8] at hp;have cb:=HBL.out w7 _ _ _ r8 hb8 hE4 hrd7 k7;have HB7:Hid (w7.heap[w.heap.size]?=some fcZ∧w7.heap[P]?=some (fcO SB0 (.slice c0 c1 c2) ⟨#[]⟩ (.slice none 0 0) line)):=⟨b7,p7⟩;have HK7:Hid (zb r w w7):=k7;have HPS7:Hid (Z1 w2.heap.size w7 pl (.slice c0 c1 c2)):=hps7;clear b7 p7 k7 hps7 hrd7;go_wp2_with fail
      refine cb.mono ?_;clear cb;rintro e w8 ⟨hk8,hpost⟩;rcases r8 with a | ⟨bl,us5⟩
      ·obtain rfl:=hpost
       simp only [Option.some.injEq] at hp;subst hp;exact ⟨rfl,HK7.out.trans hk8,rfl⟩
      ·obtain ⟨vb,o8,cap8,rfl,hbs,hrd8⟩:=hpost
       simp only [Option.some.injEq] at hp;subst hp;obtain ⟨d0,d1,d2,rfl⟩:=hbs.slice;have hS:=HS.out;have hs8:=hk8.size;have hP7:P<w7.heap.size:=(Array.getElem?_eq_some_iff.1 HB7.out.2).1;have hN7:w.heap.size<w7.heap.size:=(Array.getElem?_eq_some_iff.1 HB7.out.1).1;have b8:=(hk8.block w.heap.size hN7 (by omega)).trans HB7.out.1
       have p8:=(hk8.block P hP7 (by omega)).trans HB7.out.2
       have hps8:=HPS7.out.keptR hk8 (by omega)
       obtain ⟨-,-,-,m3,-,mf⟩:=zl p8;have mf3:=mf 3;obtain ⟨w9,hw9⟩:∃w9,w9=w8.setCell ⟨P,3,none⟩ (.slice d0 d1 d2):=⟨_,rfl⟩;have p9:w9.heap[P]?=some (fcO SB0 (.slice c0 c1 c2) ⟨#[]⟩ (.slice d0 d1 d2) line):=by rw [hw9];exact zp _ p8
       have b9:w9.heap[w.heap.size]?=some fcZ:=by rw [hw9,Below.heap_setCell _ _ _ _ (by simp;omega)];exact b8
       have hrd9:zg r g o8 cap8 us5 w9:=by rw [hw9];exact hrd8.setP _ (by omega) (by omega)
       have k9:zb r w w9:=by rw [hw9];exact (HK7.out.trans hk8).setOther (by simp;omega) _
       have hps9:Z1 w2.heap.size w9 pl (.slice c0 c1 c2):=by rw [hw9];exact hps8.setP _ (by omega)
       have hbs9:zZ (fun k=>w7.heap.size≤k) w9 bl (.slice d0 d1 d2):=by rw [hw9];exact hbs.setP _ fun k hk=>by omega
       obtain ⟨e0,e1,e2,e3,e4,-⟩:=zl p9;obtain ⟨q0,q1,q2,q3,q4,qf⟩:=zl b9;obtain ⟨z0,z1,z2,z3,z4⟩:=zt b9 (.string SB0) (.slice c0 c1 c2) (.string ⟨#[]⟩) (.slice d0 d1 d2) (.int .i64 (line:Int))
       have HP:Hid (uC r g w (.ok (⟨t0.s,pl,[],bl,line⟩,us5)) (.returned (.agg #[.string SB0,.slice c0 c1 c2,.string ⟨#[]⟩,.slice d0 d1 d2,.int .i64 (line:Int)])) (set5 w9 w.heap.size (.string SB0) (.slice c0 c1 c2) (.string ⟨#[]⟩) (.slice d0 d1 d2) (.int .i64 (line:Int)))):=by
        have hkp:∀k,k≠w.heap.size→(set5 w9 w.heap.size (.string SB0) (.slice c0 c1 c2) (.string ⟨#[]⟩) (.slice d0 d1 d2) (.int .i64 (line:Int))).heap[k]?=w9.heap[k]?:=fun k hk=>zr _ _ _ _ _ _ _ hk
        refine ⟨ZM k9 (Nat.le_refl _) _ _ _ _ _,_,o8,cap8,rfl,⟨_,_,by rw [HSB0.out],(hps9.kept (by simp) fun k hk _=>hkp k (by omega)).mono (by omega),(hbs9.kept (by simp) fun k hk _=>hkp k (by omega)).wide fun k hk=>by omega⟩,hrd9.keep (hkp r (by omega)) (hkp g (by omega))⟩
       have hw9':=hw9.symm;clear hw9 p9 b9 hrd9 k9 hps9 hbs9 b8 p8 hps8 mf hk8 hs8 hP7 hN7 hS hbs hrd8 HB7 HPS7 HK7;go_wp2
       exact bodyPost_ret (v:=.agg #[.string SB0,.slice c0 c1 c2,.string ⟨#[]⟩,.slice d0 d1 d2,.int .i64 (line:Int)]) (by simp [results,Tryz.results60,go_sem,z0,z1,z2,z3,z4]) rfl HP.out
 ·simp only [if_neg hk] at cn
  rw [if_neg hk] at hp;simp only [zn,Option.some.injEq] at hp;subst hp
  go_enter Tryz.func60,Tryz.ntmps60
  go_wp2_with fail
  rw [←HW0.out];refine cn.mono ?_;clear cn;rintro e w1 ⟨hk1,rfl⟩;exact ⟨rfl,k0.trans hk1,rfl⟩
def Xw {α:Type} (E:(Nat→Prop)→World→α→List Value→Prop) (sz:Nat) (S:Nat→Prop) (w:World) (l:List α) (v:Value):Prop :=
 (l=[]∧v=.slice none 0 0)∨∃(g cap:Nat) (us:List (List Value)),v=.slice (some ⟨g,0,none⟩) l.length cap∧l≠[]∧us.length=l.length∧S g∧g<w.heap.size∧l.length≤cap∧cap≤maxLen∧(∀j u,us.flatten[j]?=some u→w.cell? ⟨g,j,none⟩=some u)∧(∀c∈us,c.length=sz)∧∀(j:Nat) (x:α) (c:List Value),l[j]?=some x→us[j]?=some c→E S w x c
theorem Xw.kept {α:Type} {E:(Nat→Prop)→World→α→List Value→Prop} (L:Z8 E) {sz:Nat} {S:Nat→Prop} {w w':World} {l:List α} {v:Value} (h:Xw E sz S w l v) (hs:w.heap.size≤w'.heap.size) (hb:∀k,S k→k<w.heap.size→w'.heap[k]?=w.heap[k]?):Xw E sz S w' l v:=by
 rcases h with h | ⟨g,cap,us,h1,h2,h3,h4,h5,h6,h7,h8,h9,h10⟩
 ·exact .inl h
 ·exact .inr ⟨g,cap,us,h1,h2,h3,h4,Nat.lt_of_lt_of_le h5 hs,h6,h7,fun j u hj=>by rw [World.cell?_of_block (hb g h4 h5)];exact h8 j u hj,h9,fun j x c hx hc=>L.kept (h10 j x c hx hc) hs hb⟩
theorem Xw.wide {α:Type} {E:(Nat→Prop)→World→α→List Value→Prop} (L:Z8 E) {sz:Nat} {S S':Nat→Prop} {w:World} {l:List α} {v:Value} (h:Xw E sz S w l v) (hS:∀k,S k→S' k):Xw E sz S' w l v:=by
 rcases h with h | ⟨g,cap,us,h1,h2,h3,h4,h5,h6,h7,h8,h9,h10⟩
 ·exact .inl h
 ·exact .inr ⟨g,cap,us,h1,h2,h3,hS _ h4,h5,h6,h7,h8,h9,fun j x c hx hc=>L.wide (h10 j x c hx hc) hS⟩
theorem Xw.low {α:Type} {E:(Nat→Prop)→World→α→List Value→Prop} (L:Z8 E) {sz:Nat} {S:Nat→Prop} {w:World} {l:List α} {v:Value} (h:Xw E sz S w l v):Xw E sz (fun k=>S k∧k<w.heap.size) w l v:=by
 rcases h with h | ⟨g,cap,us,h1,h2,h3,h4,h5,h6,h7,h8,h9,h10⟩
 ·exact .inl h
 ·exact .inr ⟨g,cap,us,h1,h2,h3,⟨h4,h5⟩,h5,h6,h7,h8,h9,fun j x c hx hc=>L.low (h10 j x c hx hc)⟩
theorem Xw.slice {α:Type} {E:(Nat→Prop)→World→α→List Value→Prop} {sz:Nat} {S:Nat→Prop} {w:World} {l:List α} {v:Value} (h:Xw E sz S w l v):∃b c,v=.slice b l.length c:=by
 rcases h with ⟨rfl,rfl⟩ | ⟨g,cap,us,h1,_⟩
 ·exact ⟨none,0,rfl⟩
 ·exact ⟨_,_,h1⟩
theorem yh.toG {α:Type} {E:(Nat→Prop)→World→α→List Value→Prop} (L:Z8 E) {sz ty B:Nat} {w:World} {l:List α} {v:Value} (h:yh E sz ty B w l v):Xw E sz (fun k=>B≤k) w l v:=by
 rcases h with h | ⟨g,cap,us,h⟩
 ·exact .inl h
 ·have hb:=h.block
  refine .inr ⟨g,cap,us,h.val,h.ne,h.len,hb.1,hb.2.1,hb.2.2.1,hb.2.2.2,fun j u hj=>?_,h.wid,fun j x c hx hc=>L.wide (h.kids j x c hx hc) fun k hk=>hk.1⟩
  have hx:=h.own.cells (g:=g) (by rw [h.val];rfl) j u hj
  by_cases h0:j=0
  ·subst h0;simpa [Addr.add] using hx
  ·simpa [Addr.add,h0] using hx
abbrev uD (S:Nat→Prop) (w:World) (l:List Pm) (v:Value):Prop:=Xw PmE 2 S w l v
theorem Z1.toG {B:Nat} {w:World} {l:List Pm} {v:Value} (h:Z1 B w l v):uD (fun k=>B≤k) w l v:=yh.toG yR h
theorem zZ.lower {S:Nat→Prop} {w:World} {l:List St} {v:Value} (h:zZ S w l v):zZ (fun k=>S k∧k<w.heap.size) w l v:=by
 obtain ⟨g,cap,us,h1,h2⟩:=h;exact ⟨g,cap,us,h1.low,fun j x c hx hc=>(h2 j x c hx hc).low⟩
def RcE (S:Nat→Prop) (w:World) (x:Rc) (c:List Value):Prop:=∃vp,c=[.string (za x.name),vp,.int .i64 (x.line:Int)]∧uD S w x.fields vp
theorem YC:Z8 RcE:=⟨fun ⟨vp,h1,h2⟩ hs hb=>⟨vp,h1,h2.kept yR hs hb⟩,fun ⟨vp,h1,h2⟩ hS=>⟨vp,h1,h2.wide yR hS⟩,fun ⟨vp,h1,h2⟩=>⟨vp,h1,h2.low yR⟩⟩
def FcE (S:Nat→Prop) (w:World) (x:Fc) (c:List Value):Prop:=∃vp vb,c=[.string (za x.name),vp,.string (za x.result),vb,.int .i64 (x.line:Int)]∧uD S w x.params vp∧zZ S w x.body vb
theorem YD:Z8 FcE:=⟨fun ⟨vp,vb,h1,h2,h3⟩ hs hb=>⟨vp,vb,h1,h2.kept yR hs hb,h3.kept hs hb⟩,fun ⟨vp,vb,h1,h2,h3⟩ hS=>⟨vp,vb,h1,h2.wide yR hS,h3.wide hS⟩,fun ⟨vp,vb,h1,h2,h3⟩=>⟨vp,vb,h1,h2.low yR,h3.lower⟩⟩
def EX {α:Type} (E:(Nat→Prop)→World→α→List Value→Prop) (X:Nat→Prop) (S:Nat→Prop) (w:World) (x:α) (c:List Value):Prop:=E (fun k=>S k∧X k) w x c
theorem xM {α:Type} {E:(Nat→Prop)→World→α→List Value→Prop} (L:Z8 E) (X:Nat→Prop):Z8 (EX E X):=⟨fun h hs hb=>L.kept h hs fun k hk hlt=>hb k hk.1 hlt,fun h hS=>L.wide h fun k hk=>⟨hS k hk.1,hk.2⟩,fun h=>L.wide (L.low h) fun _ hk=>⟨⟨hk.1.1,hk.2⟩,hk.1.2⟩⟩
structure yM (B:Nat) (w:World) (rs:List Rc) (fs:List Fc) (vr vf:Value):Prop where
 r:yh (EX RcE fun k=>vf.ownBlock≠some k) 3 77 B w rs vr
 f:yh (EX FcE fun k=>vr.ownBlock≠some k) 5 75 B w fs vf
 apart:∀k,vr.ownBlock=some k→vf.ownBlock≠some k
theorem yM.nil (B:Nat) (w:World):yM B w [] [] (.slice none 0 0) (.slice none 0 0):=⟨.inl ⟨rfl,rfl⟩,.inl ⟨rfl,rfl⟩,fun k h=>by simp [Value.ownBlock] at h⟩
theorem yM.kept {B:Nat} {w w':World} {rs:List Rc} {fs:List Fc} {vr vf:Value} (h:yM B w rs fs vr vf) (hs:w.heap.size≤w'.heap.size) (hb:∀k,B≤k→k<w.heap.size→w'.heap[k]?=w.heap[k]?):yM B w' rs fs vr vf :=
 ⟨h.r.kept (xM YC _) hs hb,h.f.kept (xM YD _) hs hb,h.apart⟩
theorem yh.beside {α:Type} {E:(Nat→Prop)→World→α→List Value→Prop} (L:Z8 E) {sz ty B:Nat} {w w':World} {l:List α} {v vr vr':Value} {ob:Obj} (h:yh (EX E fun k=>vr.ownBlock≠some k) sz ty B w l v) (ha:∀k,vr.ownBlock=some k→v.ownBlock≠some k) (hg:(w.alloc ob).grownBy w' vr.ownBlock) (hat:vr'.ownBlock=vr.ownBlock∨vr'.ownBlock=some (w.alloc ob).heap.size):yh (EX E fun k=>vr'.ownBlock≠some k) sz ty B w' l v:=by
 rcases h with h | ⟨g,cap,us,h⟩
 ·exact .inl h
 ·have hs:w.heap.size≤w'.heap.size:=by have:=hg.size;simp at this;omega
  have hkeep:∀k,vr.ownBlock≠some k→k<w.heap.size→w'.heap[k]?=w.heap[k]?:=fun k hk hlt=>(hg.block k (by simp;omega) (fun e=>hk e.symm)).trans (Below.heap_alloc _ _ _ hlt)
  have hvg:v.ownBlock=some g:=by rw [h.val];rfl
  have hgr:vr.ownBlock≠some g:=fun e=>ha g e hvg
  have hb:=h.block;refine .inr ⟨g,cap,us,h.val,h.ne,?_,h.len,h.wid,fun j x c hx hc=>?_⟩
  ·refine ⟨h.own.1,?_⟩
   rcases h.own.2 with h1 | ⟨g',cap',cur,h1,h2,h3,h4⟩
   ·exact .inl h1
   ·have e:g'=g:=by rw [h.val] at h1;simp at h1;exact h1.1.symm
    subst e;exact .inr ⟨g',cap',cur,h1,h2,(hkeep g' hgr hb.2.1).trans h3,h4⟩
  ·have hx':E (fun k=>(B≤k∧k≠g)∧vr.ownBlock≠some k) w x c:=h.kids j x c hx hc
   refine L.wide (L.kept (L.low hx') hs fun k hk _=>hkeep k hk.1.2 hk.2) fun k hk=>⟨hk.1.1,?_⟩
   rcases hat with e | e
   ·rw [e];exact hk.1.2
   ·rw [e]
    intro e'
    have:=Option.some.inj e'
    simp at this
    omega
theorem yM.addR {B N:Nat} {w w':World} {rs:List Rc} {fs:List Fc} {vr vf vr':Value} {x:Rc} {c:List Value} {ob:Obj} {us:List (List Value)} (h:yM B w rs fs vr vf)
  (hnext:∀{w':World} {v':Value} {x:Rc} {c:List Value} {ob:Obj} {N:Nat},EX RcE (fun k=>vf.ownBlock≠some k) (fun k=>N≤k) w x c→B≤N→(∀q,vr.ownBlock=some q→q<N)→c.length=3→w'.ownsRow B 77 3 v' (rs.length+1) (us.flatten++c)→(w.alloc ob).grownBy w' vr.ownBlock→(v'.ownBlock=vr.ownBlock∨v'.ownBlock=some (w.alloc ob).heap.size)→yh (EX RcE fun k=>vf.ownBlock≠some k) 3 77 B w' (rs++[x]) v')
  (hx:RcE (fun k=>N≤k) w x c) (hBN:B≤N) (hr:∀q,vr.ownBlock=some q→q<N) (hf:∀q,vf.ownBlock=some q→q<N) (hfw:∀q,vf.ownBlock=some q→q<w.heap.size) (hc:c.length=3) (ho:w'.ownsRow B 77 3 vr' (rs.length+1) (us.flatten++c)) (hg:(w.alloc ob).grownBy w' vr.ownBlock) (hat:vr'.ownBlock=vr.ownBlock∨vr'.ownBlock=some (w.alloc ob).heap.size):yM B w' (rs++[x]) fs vr' vf:=by
 refine ⟨hnext (YC.wide hx fun k hk=>⟨hk,fun e=>by have:=hf k e;omega⟩) hBN hr hc ho hg hat,h.f.beside YD h.apart hg hat,fun k hk e=>?_⟩
 rcases hat with e1 | e1
 ·rw [e1] at hk;exact h.apart k hk e
 ·rw [e1] at hk
  have:=Option.some.inj hk
  have h9:=hfw k e
  simp at this
  omega
theorem yM.addF {B N:Nat} {w w':World} {rs:List Rc} {fs:List Fc} {vr vf vf':Value} {x:Fc} {c:List Value} {ob:Obj} {us:List (List Value)} (h:yM B w rs fs vr vf)
  (hnext:∀{w':World} {v':Value} {x:Fc} {c:List Value} {ob:Obj} {N:Nat},EX FcE (fun k=>vr.ownBlock≠some k) (fun k=>N≤k) w x c→B≤N→(∀q,vf.ownBlock=some q→q<N)→c.length=5→w'.ownsRow B 75 5 v' (fs.length+1) (us.flatten++c)→(w.alloc ob).grownBy w' vf.ownBlock→(v'.ownBlock=vf.ownBlock∨v'.ownBlock=some (w.alloc ob).heap.size)→yh (EX FcE fun k=>vr.ownBlock≠some k) 5 75 B w' (fs++[x]) v')
  (hx:FcE (fun k=>N≤k) w x c) (hBN:B≤N) (hf:∀q,vf.ownBlock=some q→q<N) (hr:∀q,vr.ownBlock=some q→q<N) (hrw:∀q,vr.ownBlock=some q→q<w.heap.size) (hc:c.length=5) (ho:w'.ownsRow B 75 5 vf' (fs.length+1) (us.flatten++c)) (hg:(w.alloc ob).grownBy w' vf.ownBlock) (hat:vf'.ownBlock=vf.ownBlock∨vf'.ownBlock=some (w.alloc ob).heap.size):yM B w' rs (fs++[x]) vr vf':=by
 refine ⟨h.r.beside YC (fun k hk e=>h.apart k e hk) hg hat,hnext (YD.wide hx fun k hk=>⟨hk,fun e=>by have:=hr k e;omega⟩) hBN hf hc ho hg hat,fun k hk e=>?_⟩
 rcases hat with e1 | e1
 ·rw [e1] at e;exact h.apart k hk e
 ·rw [e1] at e
  have:=Option.some.inj e
  have h9:=hrw k hk
  simp at this
  omega
structure Pg where
 recs:List Rc
 funs:List Fc
def Xx (S:Nat→Prop) (w:World) (p:Pg) (v:Value):Prop:=∃vr vf,v=.agg #[vr,vf]∧Xw RcE 3 S w p.recs vr∧Xw FcE 5 S w p.funs vf
theorem yM.pg {B:Nat} {w:World} {rs:List Rc} {fs:List Fc} {vr vf:Value} (h:yM B w rs fs vr vf):Xx (fun k=>B≤k) w ⟨rs,fs⟩ (.agg #[vr,vf]):=by
 refine ⟨vr,vf,rfl,?_,?_⟩
 ·rcases h.r.toG (xM YC _) with h9 | ⟨g,cap,us,h1,h2,h3,h4,h5,h6,h7,h8,h9,h10⟩
  ·exact .inl h9
  ·exact .inr ⟨g,cap,us,h1,h2,h3,h4,h5,h6,h7,h8,h9,fun j x c hx hc=>YC.wide (h10 j x c hx hc) fun k hk=>hk.1⟩
 ·rcases h.f.toG (xM YD _) with h9 | ⟨g,cap,us,h1,h2,h3,h4,h5,h6,h7,h8,h9,h10⟩
  ·exact .inl h9
  ·exact .inr ⟨g,cap,us,h1,h2,h3,h4,h5,h6,h7,h8,h9,fun j x c hx hc=>YD.wide (h10 j x c hx hc) fun k hk=>hk.1⟩
theorem Xx.kept {S:Nat→Prop} {w w':World} {p:Pg} {v:Value} (h:Xx S w p v) (hs:w.heap.size≤w'.heap.size) (hb:∀k,S k→k<w.heap.size→w'.heap[k]?=w.heap[k]?):Xx S w' p v:=by
 obtain ⟨vr,vf,rfl,h1,h2⟩:=h;exact ⟨vr,vf,rfl,h1.kept YC hs hb,h2.kept YD hs hb⟩
theorem Xx.wide {S S':Nat→Prop} {w:World} {p:Pg} {v:Value} (h:Xx S w p v) (hS:∀k,S k→S' k):Xx S' w p v:=by
 obtain ⟨vr,vf,rfl,h1,h2⟩:=h;exact ⟨vr,vf,rfl,h1.wide YC hS,h2.wide YD hS⟩
def Z6 (f line:Nat) (ts:List Tk):Option (PR Rc):=zn (yB ts) fun s us=>zn (zV [123] us) fun _ us=>zn (Zl f [] us) fun l us=>zn (zV [125] us) fun _ us=>some (.ok (⟨s,l,line⟩,us))
def ZS:Nat→List Rc→List Fc→List Tk→Option (PR Pg)
 | 0,_,_,_=>none
 | f+1,rs,fs,ts =>
  if (zz ts).k=0 then some (.ok (⟨rs,fs⟩,ts))
  else if zo (zz ts) [114,101,99,111,114,100]=true then zn (Z6 f (zz ts).line ts.tail) fun x us=>ZS f (rs++[x]) fs us
  else if zo (zz ts) [102,110]=true then zn (Ym f (zz ts).line ts.tail) fun x us=>ZS f rs (fs++[x]) us
  else some (.error (zz ts).at0)
theorem Xp {f line:Nat} {ts us:List Tk} {x:Rc} (h:Z6 f line ts=some (.ok (x,us))) (hE:zk ts):zk us:=by
 unfold Z6 at h
 obtain ⟨_,_,h1,h⟩:=zd h;obtain ⟨_,_,h2,h⟩:=zd h;obtain ⟨_,_,h3,h⟩:=zd h;obtain ⟨_,_,h4,h⟩:=zd h;exact z8 h (Zj h4 (YY h3 (Zj h2 (y8 h1 hE))))
theorem vE {f line:Nat} {ts us:List Tk} {x:Fc} (h:Ym f line ts=some (.ok (x,us))) (hE:zk ts):zk us:=by
 unfold Ym at h
 obtain ⟨_,_,h1,h⟩:=zd h;obtain ⟨_,_,h2,h⟩:=zd h;obtain ⟨_,_,h3,h⟩:=zd h;obtain ⟨_,_,h4,h⟩:=zd h;exact z8 h ((Vs f).2.1 _ _ _ h4 (zb3 h3 (vD h2 (y8 h1 hE))))
theorem YZ {f:Nat}:∀{pre:List Pm} {ts:List Tk} {r:PR (List Pm)},Zl f pre ts=some r→Zl (f+1) pre ts=some r:=by
 induction f with
 | zero=>intro pre ts r h;simp [Zl] at h
 | succ f ih =>
  intro pre ts r h;rw [Zl] at h ⊢;cases hb:Yj ts with
  | error a=>rw [hb] at h;exact h
  | ok y =>
   rw [hb] at h;simp only at h ⊢
   split at h
   ·rename_i hc;rw [if_pos hc];exact ih h
   ·rename_i hc;rw [if_neg hc];exact h
theorem vY {f line:Nat} {ts:List Tk} {r:PR Rc} (h:Z6 f line ts=some r):Z6 (f+1) line ts=some r:=by
 unfold Z6 at h ⊢
 exact yL h fun _ _ _ h=>yL h fun _ _ _ h=>zD h (fun _=>YZ) fun _ _ _ h=>h
theorem uE {f line:Nat} {ts:List Tk} {r:PR Fc} (h:Ym f line ts=some r):Ym (f+1) line ts=some r:=by
 unfold Ym at h ⊢
 refine yL h fun _ _ _ h=>zD h (fun _ h=>?_) fun _ _ _ h=>yL h fun _ _ _ h=>zD h ((UK f).2.1 _) fun _ _ _ h=>h
 unfold xA at h ⊢
 refine yL h fun _ _ _ h=>?_
 split at h
 ·rename_i hc;rw [if_pos hc];exact h
 ·rename_i hc;rw [if_neg hc];exact zD h (fun _=>YZ) fun _ _ _ h=>h
theorem uF {f k line:Nat} {ts:List Tk} {r:PR Rc} (h:Z6 f line ts=some r):Z6 (f+k) line ts=some r:=by
 induction k with
 | zero=>exact h
 | succ k ih=>exact vY ih
theorem QF {f k line:Nat} {ts:List Tk} {r:PR Fc} (h:Ym f line ts=some r):Ym (f+k) line ts=some r:=by
 induction k with
 | zero=>exact h
 | succ k ih=>exact uE ih
theorem Xq (n:Nat):∀(ts:List Tk),ts.length≤n→zk ts→∀pre,yu (fun f=>Zl f pre ts) (n-1):=by
 induction n with
 | zero=>intro ts hl hE;have:=hE.pos;omega
 | succ n ih =>
  intro ts hl hE pre;cases hb:Yj ts with
  | error a=>exact (XF a n).step fun f=>by rw [Zl,hb]
  | ok y =>
   obtain ⟨p,us⟩:=y;obtain ⟨hE1,hl1⟩:=xx hb hE
   by_cases hc:zo (zz us) [44]=true
   ·have hne:=Zh hc
    exact ((ih us.tail (by omega) (zU hE1 hc) (pre++[p])).le (by omega)).step fun f=>by rw [Zl,hb];simp only [if_pos hc]
   ·exact (ZG (pre++[p]) us (n:=n) (by omega) hE1).step fun f=>by rw [Zl,hb];simp only [if_neg hc]
theorem vZ (line:Nat) {n:Nat} (ts:List Tk) (hl:ts.length≤n+1) (hE:zk ts):yu (fun f=>Z6 f line ts) n:=by
 unfold Z6
 refine (vz ts (n:=n) hl hE).then (q:=fun f s us=>zn (zV [123] us) fun _ us=>zn (Zl f [] us) fun l us=>zn (zV [125] us) fun _ us=>some (.ok ((⟨s,l,line⟩:Rc),us))) fun s us hu hEu=>?_
 refine (yo [123] us (n:=n) (by omega) hEu).then (q:=fun f _ us=>zn (Zl f [] us) fun l us=>zn (zV [125] us) fun _ us=>some (.ok ((⟨s,l,line⟩:Rc),us))) fun _ us hu hEu=>?_
 refine (Xq n us hu hEu []).then (q:=fun f l us=>zn (zV [125] us) fun _ us=>some (.ok ((⟨s,l,line⟩:Rc),us))) fun l us hu hEu=>?_
 exact (yo [125] us (n:=n) (by omega) hEu).then (q:=fun f _ us=>some (.ok ((⟨s,l,line⟩:Rc),us))) fun _ us hu hEu=>ZG _ _ hu hEu
theorem uG (line:Nat) {n:Nat} (ts:List Tk) (hl:ts.length≤n+1) (hE:zk ts):yu (fun f=>Ym f line ts) n:=by
 unfold Ym
 refine (vz ts (n:=n) hl hE).then (q:=fun f s us=>zn (xA f us) fun l us=>zn (uB us) fun t us=>zn (Zb f us) fun b us=>some (.ok ((⟨s,l,t,b,line⟩:Fc),us))) fun s us hu hEu=>?_
 have hB:yu (fun f=>xA f us) n:=by
  unfold xA
  refine (yo [40] us (n:=n) (by omega) hEu).then (q:=fun f _ us=>if zo (zz us) [41]=true then some (.ok ([],us.tail)) else zn (Zl f [] us) fun l us=>zn (zV [41] us) fun _ us=>some (.ok (l,us))) fun _ us hu hEu=>?_
  by_cases hc:zo (zz us) [41]=true
  ·have hne:=Zh hc
   simp only [if_pos hc];exact ZG _ _ (by omega) (zU hEu hc)
  ·simp only [if_neg hc]
   exact (Xq n us hu hEu []).then (q:=fun f l us=>zn (zV [41] us) fun _ us=>some (.ok (l,us))) fun l us hu hEu=>(yo [41] us (n:=n) (by omega) hEu).then (q:=fun f _ us=>some (.ok (l,us))) fun _ us hu hEu=>ZG _ _ hu hEu
 refine hB.then (q:=fun f l us=>zn (uB us) fun t us=>zn (Zb f us) fun b us=>some (.ok ((⟨s,l,t,b,line⟩:Fc),us))) fun l us hu hEu=>?_
 have hR:yu (fun _=>uB us) n:=by
  by_cases hc:zo (zz us) [58]=true
  ·have hne:=Zh hc
   refine ⟨0,YI 0 us.tail,fun _=>by unfold uB;rw [if_pos hc],fun x us' e=>?_⟩
   have:=Yu _ _ _ _ e (zU hEu hc)
   exact ⟨by omega,this.1⟩
  ·refine ⟨0,.ok ([],us),fun _=>by unfold uB;rw [if_neg hc],fun x us' e=>?_⟩
   cases e
   exact ⟨hu,hEu⟩
 refine hR.then (q:=fun f t us=>zn (Zb f us) fun b us=>some (.ok ((⟨s,l,t,b,line⟩:Fc),us))) fun t us hu hEu=>?_
 exact (uv n us hu hEu).2.1.then (q:=fun f b us=>some (.ok ((⟨s,l,t,b,line⟩:Fc),us))) fun b us hu hEu=>ZG _ _ (by omega) hEu
theorem zaJ (n:Nat):∀(ts:List Tk),ts.length≤n→zk ts→∀rs fs,yu (fun f=>ZS f rs fs ts) n:=by
 induction n with
 | zero=>intro ts hl hE;have:=hE.pos;omega
 | succ n ih =>
  intro ts hl hE rs fs
  by_cases h0:(zz ts).k=0
  ·exact (ZG (⟨rs,fs⟩:Pg) ts hl hE).step fun f=>by rw [ZS,if_pos h0]
  by_cases h1:zo (zz ts) [114,101,99,111,114,100]=true
  ·have hne:=Zh h1
   have hE1:=zU hE h1;have hpos:=hE1.pos;exact ((vZ (zz ts).line (n:=n-1) ts.tail (by omega) hE1).then (q:=fun f x us=>ZS f (rs++[x]) fs us) (m:=n+1) fun x us hu hEu=>(ih us (by omega) hEu _ _).le (by omega)).step fun f=>by rw [ZS,if_neg h0,if_pos h1]
  by_cases h2:zo (zz ts) [102,110]=true
  ·have hne:=Zh h2
   have hE1:=zU hE h2;have hpos:=hE1.pos;exact ((uG (zz ts).line (n:=n-1) ts.tail (by omega) hE1).then (q:=fun f x us=>ZS f rs (fs++[x]) us) (m:=n+1) fun x us hu hEu=>(ih us (by omega) hEu _ _).le (by omega)).step fun f=>by rw [ZS,if_neg h0,if_neg h1,if_pos h2]
  ·exact (XF _ _).step fun f=>by rw [ZS,if_neg h0,if_neg h1,if_neg h2]
end Go.Proofs.YtdgpapchkpnijaaGreatDoor
