import Derived.Test.YtpejpbbdgblbeaaGreatDoorMC17
namespace Go.Proofs.YtpejpbbdgblbeaaGreatDoor
open Go.RowKit Go.Shelf
set_option maxHeartbeats 16000000
set_option maxRecDepth 100000
structure Fc where
 name:List UInt8
 params:List Pm
 result:List UInt8
 body:List St
 line:Nat
def Y9 (f:Nat) (ts:List Tk):Option (PR (List Pm)):=zq (Zf [40] ts) fun _ us=>if zn (zx us) [41]=true then some (.ok ([],us.tail)) else zq (Zm f [] us) fun l us=>zq (Zf [41] us) fun _ us=>some (.ok (l,us))
def vY (ts:List Tk):Option (PR (List UInt8)):=if zn (zx ts) [58]=true then some (yF 0 ts.tail) else some (.ok ([],ts))
def yX (f line:Nat) (ts:List Tk):Option (PR Fc):=zq (Yg ts) fun s us=>zq (Y9 f us) fun l us=>zq (vY us) fun t us=>zq (zU f us) fun b us=>some (.ok (⟨s,l,t,b,line⟩,us))
def zi4 (B:Nat) (w:World) (x:Fc) (v:Value):Prop :=
 ∃vp vb,v=.agg #[.string (za x.name),vp,.string (za x.result),vb,.int .i64 (x.line:Int)]∧ye B w x.params vp∧zD (fun k=>B≤k) w x.body vb
abbrev fcO (a:ByteArray) (p:Value) (t:ByteArray) (b:Value) (l:Int):Obj:=.cells #[.string a,p,.string t,b,.int .i64 l] 72
abbrev fcZ:Obj:=fcO ⟨#[]⟩ (.slice none 0 0) ⟨#[]⟩ (.slice none 0 0) 0
def qt (r g:Nat) (w:World) (res:PR Fc) (e:Ending) (w':World):Prop :=
 zc r w w'∧match res with
  | .error a=>e=Z2 a
  | .ok (x,ts)=>∃v o cap,e=.returned v∧zi4 w.heap.size w' x v∧zh r g o cap ts w'
theorem x7 {f:Nat}:∀{pre l:List Pm} {ts us:List Tk},Zm f pre ts=some (.ok (l,us))→zj ts→zj us:=by
 induction f with
 | zero=>intro pre l ts us h;simp [Zm] at h
 | succ f ih =>
  intro pre l ts us h hE;rw [Zm] at h;cases hb:YE ts with
  | error a=>rw [hb] at h;cases h
  | ok y =>
   obtain ⟨p,us1⟩:=y;rw [hb] at h;simp only at h;have hE1:=(Xz hb hE).1
   split at h
   ·rename_i hc;exact ih h (zT hE1 hc)
   ·exact Zp h hE1
theorem Xp {f:Nat} {ts us:List Tk} {l:List Pm} (h:Y9 f ts=some (.ok (l,us))) (hE:zj ts):zj us:=by
 unfold Y9 at h
 obtain ⟨_,us1,h1,h⟩:=zb h;have hE1:=Zt h1 hE
 split at h
 ·rename_i hc;exact Zp h (zT hE1 hc)
 ·obtain ⟨l2,us2,h2,h⟩:=zb h
  obtain ⟨_,us3,h3,h⟩:=zb h;exact Zp h (Zt h3 (x7 h2 hE1))
theorem zev {ts us:List Tk} {s:List UInt8} (h:vY ts=some (.ok (s,us))) (hE:zj ts):zj us:=by
 unfold vY at h
 split at h
 ·rename_i hc
  simp only [Option.some.injEq] at h;exact (Y0 _ _ _ _ h (zT hE hc)).1
 ·exact Zp h hE
theorem ye.keptR {r B:Nat} {w w':World} {l:List Pm} {v:Value} (h:ye B w l v) (hk:zc r w w') (hB:r<B):ye B w' l v:=h.kept hk.size fun k hk' hlt=>hk.block k hlt (by omega)
theorem ye.setP {B P j:Nat} {w:World} {l:List Pm} {v:Value} (h:ye B w l v) (u:Value) (hP:P<B):ye B (w.setCell ⟨P,j,none⟩ u) l v:=h.kept (by simp) fun k hk _=>Below.heap_setCell _ _ _ _ (by simp;omega)
theorem zhV (r g o cap line F:Nat) (ts:List Tk) (w:World) (R:PR Fc) (h:zh r g o cap ts w) (hE:zj ts) (hp:yX F line ts=some R)
  (hpar:∀w1 o1 cap1 ts1 r1,Y9 F ts1=some r1→zj ts1→zh r g o1 cap1 ts1 w1→zc r w w1→Calls Tryz.prog 98 #[.pointer (some ⟨r,0,none⟩),.func (.func 97) #[.pointer (some ⟨r,0,none⟩)] #[]] w1 (zdF r g w1 r1))
  (hty:∀w1 o1 cap1 ts1,zj ts1→zh r g o1 cap1 ts1 w1→zc r w w1→Calls Tryz.prog 99 #[.pointer (some ⟨r,0,none⟩)] w1 (zbo r g w1 (yF 0 ts1)))
  (hbl:∀w1 o1 cap1 ts1 r1,zU F ts1=some r1→zj ts1→zh r g o1 cap1 ts1 w1→zc r w w1→Calls Tryz.prog 100 #[.pointer (some ⟨r,0,none⟩)] w1 (vV r g w1 r1)) :
  Calls Tryz.prog 54 #[.pointer (some ⟨r,0,none⟩),.int .i64 (line:Int)] w (qt r g w R):=by
 have hmf:∀(fn:Fn) (first cap:Array Value) (w:World),(Instr.makeFunc fn first cap).run Tryz.prog w=.ok (.func fn first cap) w:=fun _ _ _ _=>rfl
 obtain ⟨t0,ts0,rfl⟩:=hE.cons;have hr:=h.lt.1;have hgw:=h.lt.2;obtain ⟨w0,hw0⟩:∃w0,w0=w.alloc fcZ:=⟨_,rfl⟩;have h0:zh r g o cap (t0::ts0) w0:=by rw [hw0];exact h.alloc _
 have k0:zc r w w0:=by rw [hw0];exact (zc.refl r w).alloc _
 have b0:w0.heap[w.heap.size]?=some fcZ:=by rw [hw0];exact World.alloc_heap_new _ _
 have hs0:w0.heap.size=w.heap.size+1:=by rw [hw0];simp
 have cn:=Xl r g o cap t0 ts0 w0 h0 (fun hk=>(hE.tail (by omega)).ne)
 have HW0:Hid (w0=w.alloc fcZ):=hw0;have HBL:Hid (∀w1 o1 cap1 ts1 r1,zU F ts1=some r1→zj ts1→zh r g o1 cap1 ts1 w1→zc r w w1→Calls Tryz.prog 100 #[.pointer (some ⟨r,0,none⟩)] w1 (vV r g w1 r1)):=hbl;have HTY:Hid (∀w1 o1 cap1 ts1,zj ts1→zh r g o1 cap1 ts1 w1→zc r w w1→Calls Tryz.prog 99 #[.pointer (some ⟨r,0,none⟩)] w1 (zbo r g w1 (yF 0 ts1))):=hty;have HPAR:Hid (∀w1 o1 cap1 ts1 r1,Y9 F ts1=some r1→zj ts1→zh r g o1 cap1 ts1 w1→zc r w w1→Calls Tryz.prog 98 #[.pointer (some ⟨r,0,none⟩),.func (.func 97) #[.pointer (some ⟨r,0,none⟩)] #[]] w1 (zdF r g w1 r1)):=hpar
 unfold yX Yg at hp
 simp only [zI,List.tail_cons] at hp;clear h h0 hw0 hbl hty hpar
 by_cases hk:t0.k=1
 ·simp only [if_pos hk] at cn
  rw [if_pos hk] at hp;simp only [zq] at hp;have hE1:=hE.tail (by omega:t0.k≠0)
  go_enter Tryz.func54,Tryz.ntmps54
  go_wp2_with fail
  rw [←HW0.out];refine cn.mono ?_;clear cn HW0;rintro e w1 ⟨hk1,rfl,h1⟩;obtain ⟨SB0,hSB0⟩:∃SB0,SB0=za t0.s:=⟨_,rfl⟩;rw [←hSB0];have HSB0:Hid (SB0=za t0.s):=hSB0;obtain ⟨w2,hw2⟩:∃w2,w2=w1.alloc (fcO SB0 (.slice none 0 0) ⟨#[]⟩ (.slice none 0 0) line):=⟨_,rfl⟩;have hs1:=hk1.size;have k2:zc r w w2:=by rw [hw2];exact (k0.trans hk1).alloc _
  have b2:w2.heap[w.heap.size]?=some fcZ:=by rw [hw2];exact (Below.heap_alloc _ _ _ (by omega)).trans ((hk1.block _ (by omega) (by omega)).trans b0)
  obtain ⟨P,hP⟩:∃P,P=w1.heap.size:=⟨_,rfl⟩;have p2:w2.heap[P]?=some (fcO SB0 (.slice none 0 0) ⟨#[]⟩ (.slice none 0 0) line):=by rw [hw2,hP];exact World.alloc_heap_new _ _
  have hs2:w2.heap.size=P+1:=by rw [hw2,hP];simp
  obtain ⟨t1,us1,rfl⟩:=hE1.cons;have h2:zh r g (o+5) (cap-1) (t1::us1) w2:=by rw [hw2];exact h1.alloc _
  cases hb2:Y9 F (t1::us1) with
  | none=>rw [hb2] at hp;cases hp
  | some r2 =>
   rw [hb2] at hp;have cp:=HPAR.out w2 _ _ _ r2 hb2 hE1 h2 k2;have HW2:Hid (w2=w1.alloc (fcO SB0 (.slice none 0 0) ⟨#[]⟩ (.slice none 0 0) line)):=hw2;have HB2:Hid (w2.heap[w.heap.size]?=some fcZ∧w2.heap[P]?=some (fcO SB0 (.slice none 0 0) ⟨#[]⟩ (.slice none 0 0) line)):=⟨b2,p2⟩;have HK2:Hid (zc r w w2):=k2;have HS:Hid (w.heap.size<P∧w2.heap.size=P+1):=⟨by omega,hs2⟩
   have HPP:Hid (w1.heap.size=P):=hP.symm;clear hw2 k2 b2 p2 hs2 h2 h1 hk1 hs1 hP k0 b0 hs0 hSB0;go_wp2_with fail
   rw [←HW2.out];rw [HPP.out];refine cp.mono ?_;clear cp HW2;rintro e w3 ⟨hk3,hpost⟩;rcases r2 with a | ⟨pl,us2⟩
   ·obtain rfl:=hpost
    simp only [Option.some.injEq] at hp;subst hp;exact ⟨rfl,HK2.out.trans hk3,rfl⟩
   ·obtain ⟨vp,o3,cap3,rfl,hps,hrd3⟩:=hpost
    simp only at hp;obtain ⟨c0,c1,c2,rfl⟩:=hps.slice;have hE2:=Xp hb2 hE1;obtain ⟨t2,us3,rfl⟩:=hE2.cons;have hS:=HS.out;have hs3:=hk3.size;have b3:=(hk3.block w.heap.size (by omega) (by omega)).trans HB2.out.1
    have p3:=(hk3.block P (by omega) (by omega)).trans HB2.out.2
    obtain ⟨-,m1,-,-,-,mf⟩:=zo p3;have mf1:=mf 1;obtain ⟨w4,hw4⟩:∃w4,w4=w3.setCell ⟨P,1,none⟩ (.slice c0 c1 c2):=⟨_,rfl⟩;have p4:w4.heap[P]?=some (fcO SB0 (.slice c0 c1 c2) ⟨#[]⟩ (.slice none 0 0) line):=by rw [hw4];exact zm _ p3
    have b4:w4.heap[w.heap.size]?=some fcZ:=by rw [hw4,Below.heap_setCell _ _ _ _ (by simp;omega)];exact b3
    have hz4:w4.heap.size=w3.heap.size:=by rw [hw4];simp
    have hrd4:zh r g o3 cap3 (t2::us3) w4:=by rw [hw4];exact hrd3.setP _ (by omega) (by omega)
    have k4:zc r w w4:=by rw [hw4];exact (HK2.out.trans hk3).setOther (by simp;omega) _
    have hps4:ye w2.heap.size w4 pl (.slice c0 c1 c2):=by rw [hw4];exact hps.setP _ (by omega)
    have cs:=ZL r g o3 cap3 t2 us3 [58] w4 hrd4 (fun hi=>(hE2.tail (zl hi)).ne)
    have HB4:Hid (w4.heap[w.heap.size]?=some fcZ∧w4.heap[P]?=some (fcO SB0 (.slice c0 c1 c2) ⟨#[]⟩ (.slice none 0 0) line)):=⟨b4,p4⟩;have HK4:Hid (zc r w w4):=k4;have HPS4:Hid (ye w2.heap.size w4 pl (.slice c0 c1 c2)):=hps4;have hw4':=hw4.symm;simp only [vY,zI,List.tail_cons] at hp;clear hw4 p4 b4 hz4 hrd4 k4 hps4 hps hrd3 b3 p3 mf hk3 hs3 hS HB2 HK2
    by_cases hi:zn t2 [58]=true
    ·rw [hi] at cs
     simp only [if_pos hi] at hp;have hE3:=hE2.tail (zl hi);go_wp2_with fail
     refine cs.mono ?_;clear cs hw4' m1 mf1;rintro e w5 ⟨rfl,hk5,h5⟩;have h5':zh r g (o3+5) (cap3-1) us3 w5:=by simpa using h5
     have ct:=HTY.out w5 _ _ us3 hE3 h5' (HK4.out.trans hk5);have HK45:Hid (zc r w4 w5):=hk5;clear h5 h5' hk5;go_wp2_with fail
     refine ct.mono ?_;clear ct;rintro e w6 ⟨hk6,hpost⟩;have HK46:Hid (zc r w4 w6):=HK45.out.trans hk6;cases hR6:yF 0 us3 with
     | error a =>
      rw [hR6] at hpost hp;obtain rfl:=hpost;simp only [Option.some.injEq] at hp;subst hp;exact ⟨rfl,HK4.out.trans HK46.out,rfl⟩
     | ok y =>
      obtain ⟨ty,us4⟩:=y;rw [hR6] at hpost hp;obtain ⟨o6,cap6,rfl,hrd6⟩:=hpost;simp only at hp;have hE4:=(Y0 _ _ _ _ hR6 hE3).1;obtain ⟨TY,hTY⟩:∃TY,TY=za ty:=⟨_,rfl⟩;rw [←hTY];have HTYB:Hid (TY=za ty):=hTY;have hS:=HS.out;have hs6:=HK46.out.size;have hP4:P<w4.heap.size:=(Array.getElem?_eq_some_iff.1 HB4.out.2).1;have hN4:w.heap.size<w4.heap.size:=(Array.getElem?_eq_some_iff.1 HB4.out.1).1;have b6:=(HK46.out.block w.heap.size hN4 (by omega)).trans HB4.out.1
      have p6:=(HK46.out.block P hP4 (by omega)).trans HB4.out.2
      have hps6:=HPS4.out.keptR HK46.out (by omega)
      obtain ⟨-,-,m2,-,-,mf⟩:=zo p6;have mf2:=mf 2;obtain ⟨w7,hw7⟩:∃w7,w7=w6.setCell ⟨P,2,none⟩ (.string TY):=⟨_,rfl⟩;have p7:w7.heap[P]?=some (fcO SB0 (.slice c0 c1 c2) TY (.slice none 0 0) line):=by rw [hw7];exact zm _ p6
      have b7:w7.heap[w.heap.size]?=some fcZ:=by rw [hw7,Below.heap_setCell _ _ _ _ (by simp;omega)];exact b6
      have hrd7:zh r g o6 cap6 us4 w7:=by rw [hw7];exact hrd6.setP _ (by omega) (by omega)
      have k7:zc r w w7:=by rw [hw7];exact (HK4.out.trans HK46.out).setOther (by simp;omega) _
      have hps7:ye w2.heap.size w7 pl (.slice c0 c1 c2):=by rw [hw7];exact hps6.setP _ (by omega)
      have hw7':=hw7.symm;clear hw7 p6 b6 hps6 hrd6 mf hs6 hP4 hN4 hS hTY hk6;cases hb8:zU F us4 with
      | none=>rw [hb8] at hp;cases hp
      | some r8 =>
       rw [hb8] at hp;have cb:=HBL.out w7 _ _ _ r8 hb8 hE4 hrd7 k7;have HB7:Hid (w7.heap[w.heap.size]?=some fcZ∧w7.heap[P]?=some (fcO SB0 (.slice c0 c1 c2) TY (.slice none 0 0) line)):=⟨b7,p7⟩;have HK7:Hid (zc r w w7):=k7;have HPS7:Hid (ye w2.heap.size w7 pl (.slice c0 c1 c2)):=hps7;clear b7 p7 k7 hps7 hrd7;go_wp2_with fail
       refine cb.mono ?_;clear cb hw7' m2 mf2;rintro e w8 ⟨hk8,hpost⟩;rcases r8 with a | ⟨bl,us5⟩
       ·obtain rfl:=hpost
        simp only [Option.some.injEq] at hp;subst hp;exact ⟨rfl,HK7.out.trans hk8,rfl⟩
       ·obtain ⟨vb,o8,cap8,rfl,hbs,hrd8⟩:=hpost
        simp only [Option.some.injEq] at hp;subst hp;obtain ⟨d0,d1,d2,rfl⟩:=hbs.slice;have hS:=HS.out;have hs8:=hk8.size;have hP7:P<w7.heap.size:=(Array.getElem?_eq_some_iff.1 HB7.out.2).1;have hN7:w.heap.size<w7.heap.size:=(Array.getElem?_eq_some_iff.1 HB7.out.1).1;have b8:=(hk8.block w.heap.size hN7 (by omega)).trans HB7.out.1
        have p8:=(hk8.block P hP7 (by omega)).trans HB7.out.2
        have hps8:=HPS7.out.keptR hk8 (by omega)
        obtain ⟨-,-,-,m3,-,mf⟩:=zo p8;have mf3:=mf 3;obtain ⟨w9,hw9⟩:∃w9,w9=w8.setCell ⟨P,3,none⟩ (.slice d0 d1 d2):=⟨_,rfl⟩;have p9:w9.heap[P]?=some (fcO SB0 (.slice c0 c1 c2) TY (.slice d0 d1 d2) line):=by rw [hw9];exact zm _ p8
        have b9:w9.heap[w.heap.size]?=some fcZ:=by rw [hw9,Below.heap_setCell _ _ _ _ (by simp;omega)];exact b8
        have hrd9:zh r g o8 cap8 us5 w9:=by rw [hw9];exact hrd8.setP _ (by omega) (by omega)
        have k9:zc r w w9:=by rw [hw9];exact (HK7.out.trans hk8).setOther (by simp;omega) _
        have hps9:ye w2.heap.size w9 pl (.slice c0 c1 c2):=by rw [hw9];exact hps8.setP _ (by omega)
        have hbs9:zD (fun k=>w7.heap.size≤k) w9 bl (.slice d0 d1 d2):=by rw [hw9];exact hbs.setP _ fun k hk=>by omega
        obtain ⟨e0,e1,e2,e3,e4,-⟩:=zo p9;obtain ⟨q0,q1,q2,q3,q4,qf⟩:=zo b9;obtain ⟨z0,z1,z2,z3,z4⟩:=zA b9 (.string SB0) (.slice c0 c1 c2) (.string TY) (.slice d0 d1 d2) (.int .i64 (line:Int))
        have HP:Hid (qt r g w (.ok (⟨t0.s,pl,ty,bl,line⟩,us5)) (.returned (.agg #[.string SB0,.slice c0 c1 c2,.string TY,.slice d0 d1 d2,.int .i64 (line:Int)])) (set5 w9 w.heap.size (.string SB0) (.slice c0 c1 c2) (.string TY) (.slice d0 d1 d2) (.int .i64 (line:Int)))):=by
         have hkp:∀k,k≠w.heap.size→(set5 w9 w.heap.size (.string SB0) (.slice c0 c1 c2) (.string TY) (.slice d0 d1 d2) (.int .i64 (line:Int))).heap[k]?=w9.heap[k]?:=fun k hk=>zw _ _ _ _ _ _ _ hk
         refine ⟨yq k9 (Nat.le_refl _) _ _ _ _ _,_,o8,cap8,rfl,⟨_,_,by rw [HSB0.out,HTYB.out],(hps9.kept (by simp) fun k hk _=>hkp k (by omega)).mono (by omega),(hbs9.kept (by simp) fun k hk _=>hkp k (by omega)).wide fun k hk=>by omega⟩,hrd9.keep (hkp r (by omega)) (hkp g (by omega))⟩
        have hw9':=hw9.symm;clear hw9 p9 b9 hrd9 k9 hps9 hbs9 b8 p8 hps8 mf hk8 hs8 hP7 hN7 hS hbs hrd8 HB7 HPS7 HK7;go_wp2
        exact bodyPost_ret (v:=.agg #[.string SB0,.slice c0 c1 c2,.string TY,.slice d0 d1 d2,.int .i64 (line:Int)]) (by simp [results,Tryz.results54,go_sem,z0,z1,z2,z3,z4]) rfl HP.out
    ·have hi':zn t2 [58]=false:=by simpa using hi
     rw [hi'] at cs;simp only [if_neg hi] at hp;go_wp2_with fail
     refine cs.mono ?_;clear cs hw4' m1 mf1;rintro e w7 ⟨rfl,hk7,h7⟩;have hrd7:zh r g o3 cap3 (t2::us3) w7:=by simpa using h7
     have hS:=HS.out;have hP4:P<w4.heap.size:=(Array.getElem?_eq_some_iff.1 HB4.out.2).1;have hN4:w.heap.size<w4.heap.size:=(Array.getElem?_eq_some_iff.1 HB4.out.1).1;have b7:=(hk7.block w.heap.size hN4 (by omega)).trans HB4.out.1
     have p7:=(hk7.block P hP4 (by omega)).trans HB4.out.2
     have k7:zc r w w7:=HK4.out.trans hk7;have hps7:=HPS4.out.keptR hk7 (by omega)
     have hE4:=hE2;clear hP4 hN4 hS hk7 h7;cases hb8:zU F (t2::us3) with
     | none=>rw [hb8] at hp;cases hp
     | some r8 =>
      rw [hb8] at hp;have cb:=HBL.out w7 _ _ _ r8 hb8 hE4 hrd7 k7;have HB7:Hid (w7.heap[w.heap.size]?=some fcZ∧w7.heap[P]?=some (fcO SB0 (.slice c0 c1 c2) ⟨#[]⟩ (.slice none 0 0) line)):=⟨b7,p7⟩;have HK7:Hid (zc r w w7):=k7;have HPS7:Hid (ye w2.heap.size w7 pl (.slice c0 c1 c2)):=hps7;clear b7 p7 k7 hps7 hrd7;go_wp2_with fail
      refine cb.mono ?_;clear cb;rintro e w8 ⟨hk8,hpost⟩;rcases r8 with a | ⟨bl,us5⟩
      ·obtain rfl:=hpost
       simp only [Option.some.injEq] at hp;subst hp;exact ⟨rfl,HK7.out.trans hk8,rfl⟩
      ·obtain ⟨vb,o8,cap8,rfl,hbs,hrd8⟩:=hpost
       simp only [Option.some.injEq] at hp;subst hp;obtain ⟨d0,d1,d2,rfl⟩:=hbs.slice;have hS:=HS.out;have hs8:=hk8.size;have hP7:P<w7.heap.size:=(Array.getElem?_eq_some_iff.1 HB7.out.2).1;have hN7:w.heap.size<w7.heap.size:=(Array.getElem?_eq_some_iff.1 HB7.out.1).1;have b8:=(hk8.block w.heap.size hN7 (by omega)).trans HB7.out.1
       have p8:=(hk8.block P hP7 (by omega)).trans HB7.out.2
       have hps8:=HPS7.out.keptR hk8 (by omega)
       obtain ⟨-,-,-,m3,-,mf⟩:=zo p8;have mf3:=mf 3;obtain ⟨w9,hw9⟩:∃w9,w9=w8.setCell ⟨P,3,none⟩ (.slice d0 d1 d2):=⟨_,rfl⟩;have p9:w9.heap[P]?=some (fcO SB0 (.slice c0 c1 c2) ⟨#[]⟩ (.slice d0 d1 d2) line):=by rw [hw9];exact zm _ p8
       have b9:w9.heap[w.heap.size]?=some fcZ:=by rw [hw9,Below.heap_setCell _ _ _ _ (by simp;omega)];exact b8
       have hrd9:zh r g o8 cap8 us5 w9:=by rw [hw9];exact hrd8.setP _ (by omega) (by omega)
       have k9:zc r w w9:=by rw [hw9];exact (HK7.out.trans hk8).setOther (by simp;omega) _
       have hps9:ye w2.heap.size w9 pl (.slice c0 c1 c2):=by rw [hw9];exact hps8.setP _ (by omega)
       have hbs9:zD (fun k=>w7.heap.size≤k) w9 bl (.slice d0 d1 d2):=by rw [hw9];exact hbs.setP _ fun k hk=>by omega
       obtain ⟨e0,e1,e2,e3,e4,-⟩:=zo p9;obtain ⟨q0,q1,q2,q3,q4,qf⟩:=zo b9;obtain ⟨z0,z1,z2,z3,z4⟩:=zA b9 (.string SB0) (.slice c0 c1 c2) (.string ⟨#[]⟩) (.slice d0 d1 d2) (.int .i64 (line:Int))
       have HP:Hid (qt r g w (.ok (⟨t0.s,pl,[],bl,line⟩,us5)) (.returned (.agg #[.string SB0,.slice c0 c1 c2,.string ⟨#[]⟩,.slice d0 d1 d2,.int .i64 (line:Int)])) (set5 w9 w.heap.size (.string SB0) (.slice c0 c1 c2) (.string ⟨#[]⟩) (.slice d0 d1 d2) (.int .i64 (line:Int)))):=by
        have hkp:∀k,k≠w.heap.size→(set5 w9 w.heap.size (.string SB0) (.slice c0 c1 c2) (.string ⟨#[]⟩) (.slice d0 d1 d2) (.int .i64 (line:Int))).heap[k]?=w9.heap[k]?:=fun k hk=>zw _ _ _ _ _ _ _ hk
        refine ⟨yq k9 (Nat.le_refl _) _ _ _ _ _,_,o8,cap8,rfl,⟨_,_,by rw [HSB0.out],(hps9.kept (by simp) fun k hk _=>hkp k (by omega)).mono (by omega),(hbs9.kept (by simp) fun k hk _=>hkp k (by omega)).wide fun k hk=>by omega⟩,hrd9.keep (hkp r (by omega)) (hkp g (by omega))⟩
       have hw9':=hw9.symm;clear hw9 p9 b9 hrd9 k9 hps9 hbs9 b8 p8 hps8 mf hk8 hs8 hP7 hN7 hS hbs hrd8 HB7 HPS7 HK7;go_wp2
       exact bodyPost_ret (v:=.agg #[.string SB0,.slice c0 c1 c2,.string ⟨#[]⟩,.slice d0 d1 d2,.int .i64 (line:Int)]) (by simp [results,Tryz.results54,go_sem,z0,z1,z2,z3,z4]) rfl HP.out
 ·simp only [if_neg hk] at cn
  rw [if_neg hk] at hp;simp only [zq,Option.some.injEq] at hp;subst hp
  go_enter Tryz.func54,Tryz.ntmps54
  go_wp2_with fail
  rw [←HW0.out];refine cn.mono ?_;clear cn;rintro e w1 ⟨hk1,rfl⟩;exact ⟨rfl,k0.trans hk1,rfl⟩
def vd {α:Type} (E:(Nat→Prop)→World→α→List Value→Prop) (sz:Nat) (S:Nat→Prop) (w:World) (l:List α) (v:Value):Prop :=
 (l=[]∧v=.slice none 0 0)∨∃(g cap:Nat) (us:List (List Value)),v=.slice (some ⟨g,0,none⟩) l.length cap∧l≠[]∧us.length=l.length∧S g∧g<w.heap.size∧l.length≤cap∧cap≤maxLen∧(∀j u,us.flatten[j]?=some u→w.cell? ⟨g,j,none⟩=some u)∧(∀c∈us,c.length=sz)∧∀(j:Nat) (x:α) (c:List Value),l[j]?=some x→us[j]?=some c→E S w x c
theorem vd.kept {α:Type} {E:(Nat→Prop)→World→α→List Value→Prop} (L:yO E) {sz:Nat} {S:Nat→Prop} {w w':World} {l:List α} {v:Value} (h:vd E sz S w l v) (hs:w.heap.size≤w'.heap.size) (hb:∀k,S k→k<w.heap.size→w'.heap[k]?=w.heap[k]?):vd E sz S w' l v:=by
 rcases h with h | ⟨g,cap,us,h1,h2,h3,h4,h5,h6,h7,h8,h9,h10⟩
 ·exact .inl h
 ·exact .inr ⟨g,cap,us,h1,h2,h3,h4,Nat.lt_of_lt_of_le h5 hs,h6,h7,fun j u hj=>by rw [World.cell?_of_block (hb g h4 h5)];exact h8 j u hj,h9,fun j x c hx hc=>L.kept (h10 j x c hx hc) hs hb⟩
theorem vd.wide {α:Type} {E:(Nat→Prop)→World→α→List Value→Prop} (L:yO E) {sz:Nat} {S S':Nat→Prop} {w:World} {l:List α} {v:Value} (h:vd E sz S w l v) (hS:∀k,S k→S' k):vd E sz S' w l v:=by
 rcases h with h | ⟨g,cap,us,h1,h2,h3,h4,h5,h6,h7,h8,h9,h10⟩
 ·exact .inl h
 ·exact .inr ⟨g,cap,us,h1,h2,h3,hS _ h4,h5,h6,h7,h8,h9,fun j x c hx hc=>L.wide (h10 j x c hx hc) hS⟩
theorem vd.low {α:Type} {E:(Nat→Prop)→World→α→List Value→Prop} (L:yO E) {sz:Nat} {S:Nat→Prop} {w:World} {l:List α} {v:Value} (h:vd E sz S w l v):vd E sz (fun k=>S k∧k<w.heap.size) w l v:=by
 rcases h with h | ⟨g,cap,us,h1,h2,h3,h4,h5,h6,h7,h8,h9,h10⟩
 ·exact .inl h
 ·exact .inr ⟨g,cap,us,h1,h2,h3,⟨h4,h5⟩,h5,h6,h7,h8,h9,fun j x c hx hc=>L.low (h10 j x c hx hc)⟩
theorem vd.slice {α:Type} {E:(Nat→Prop)→World→α→List Value→Prop} {sz:Nat} {S:Nat→Prop} {w:World} {l:List α} {v:Value} (h:vd E sz S w l v):∃b c,v=.slice b l.length c:=by
 rcases h with ⟨rfl,rfl⟩ | ⟨g,cap,us,h1,_⟩
 ·exact ⟨none,0,rfl⟩
 ·exact ⟨_,_,h1⟩
theorem Z6.toG {α:Type} {E:(Nat→Prop)→World→α→List Value→Prop} (L:yO E) {sz ty B:Nat} {w:World} {l:List α} {v:Value} (h:Z6 E sz ty B w l v):vd E sz (fun k=>B≤k) w l v:=by
 rcases h with h | ⟨g,cap,us,h⟩
 ·exact .inl h
 ·have hb:=h.block
  refine .inr ⟨g,cap,us,h.val,h.ne,h.len,hb.1,hb.2.1,hb.2.2.1,hb.2.2.2,fun j u hj=>?_,h.wid,fun j x c hx hc=>L.wide (h.kids j x c hx hc) fun k hk=>hk.1⟩
  have hx:=h.own.cells (g:=g) (by rw [h.val];rfl) j u hj
  by_cases h0:j=0
  ·subst h0;simpa [Addr.add] using hx
  ·simpa [Addr.add,h0] using hx
abbrev Yz (S:Nat→Prop) (w:World) (l:List Pm) (v:Value):Prop:=vd PmE 2 S w l v
theorem ye.toG {B:Nat} {w:World} {l:List Pm} {v:Value} (h:ye B w l v):Yz (fun k=>B≤k) w l v:=Z6.toG yj h
theorem zD.lower {S:Nat→Prop} {w:World} {l:List St} {v:Value} (h:zD S w l v):zD (fun k=>S k∧k<w.heap.size) w l v:=by
 obtain ⟨g,cap,us,h1,h2⟩:=h;exact ⟨g,cap,us,h1.low,fun j x c hx hc=>(h2 j x c hx hc).low⟩
def RcE (S:Nat→Prop) (w:World) (x:Rc) (c:List Value):Prop:=∃vp,c=[.string (za x.name),vp,.int .i64 (x.line:Int)]∧Yz S w x.fields vp
theorem xp:yO RcE:=⟨fun ⟨vp,h1,h2⟩ hs hb=>⟨vp,h1,h2.kept yj hs hb⟩,fun ⟨vp,h1,h2⟩ hS=>⟨vp,h1,h2.wide yj hS⟩,fun ⟨vp,h1,h2⟩=>⟨vp,h1,h2.low yj⟩⟩
def FcE (S:Nat→Prop) (w:World) (x:Fc) (c:List Value):Prop:=∃vp vb,c=[.string (za x.name),vp,.string (za x.result),vb,.int .i64 (x.line:Int)]∧Yz S w x.params vp∧zD S w x.body vb
theorem YA:yO FcE:=⟨fun ⟨vp,vb,h1,h2,h3⟩ hs hb=>⟨vp,vb,h1,h2.kept yj hs hb,h3.kept hs hb⟩,fun ⟨vp,vb,h1,h2,h3⟩ hS=>⟨vp,vb,h1,h2.wide yj hS,h3.wide hS⟩,fun ⟨vp,vb,h1,h2,h3⟩=>⟨vp,vb,h1,h2.low yj,h3.lower⟩⟩
def EX {α:Type} (E:(Nat→Prop)→World→α→List Value→Prop) (X:Nat→Prop) (S:Nat→Prop) (w:World) (x:α) (c:List Value):Prop:=E (fun k=>S k∧X k) w x c
theorem Y5 {α:Type} {E:(Nat→Prop)→World→α→List Value→Prop} (L:yO E) (X:Nat→Prop):yO (EX E X):=⟨fun h hs hb=>L.kept h hs fun k hk hlt=>hb k hk.1 hlt,fun h hS=>L.wide h fun k hk=>⟨hS k hk.1,hk.2⟩,fun h=>L.wide (L.low h) fun _ hk=>⟨⟨hk.1.1,hk.2⟩,hk.1.2⟩⟩
structure yg (B:Nat) (w:World) (rs:List Rc) (fs:List Fc) (vr vf:Value):Prop where
 r:Z6 (EX RcE fun k=>vf.ownBlock≠some k) 3 74 B w rs vr
 f:Z6 (EX FcE fun k=>vr.ownBlock≠some k) 5 72 B w fs vf
 apart:∀k,vr.ownBlock=some k→vf.ownBlock≠some k
theorem yg.nil (B:Nat) (w:World):yg B w [] [] (.slice none 0 0) (.slice none 0 0):=⟨.inl ⟨rfl,rfl⟩,.inl ⟨rfl,rfl⟩,fun k h=>by simp [Value.ownBlock] at h⟩
theorem yg.kept {B:Nat} {w w':World} {rs:List Rc} {fs:List Fc} {vr vf:Value} (h:yg B w rs fs vr vf) (hs:w.heap.size≤w'.heap.size) (hb:∀k,B≤k→k<w.heap.size→w'.heap[k]?=w.heap[k]?):yg B w' rs fs vr vf :=
 ⟨h.r.kept (Y5 xp _) hs hb,h.f.kept (Y5 YA _) hs hb,h.apart⟩
theorem Z6.beside {α:Type} {E:(Nat→Prop)→World→α→List Value→Prop} (L:yO E) {sz ty B:Nat} {w w':World} {l:List α} {v vr vr':Value} {ob:Obj} (h:Z6 (EX E fun k=>vr.ownBlock≠some k) sz ty B w l v) (ha:∀k,vr.ownBlock=some k→v.ownBlock≠some k) (hg:(w.alloc ob).grownBy w' vr.ownBlock) (hat:vr'.ownBlock=vr.ownBlock∨vr'.ownBlock=some (w.alloc ob).heap.size):Z6 (EX E fun k=>vr'.ownBlock≠some k) sz ty B w' l v:=by
 rcases h with h | ⟨g,cap,us,h⟩
 ·exact .inl h
 ·have hs:w.heap.size≤w'.heap.size:=by have:=hg.size;simp at this;omega
  have hkeep:∀k,vr.ownBlock≠some k→k<w.heap.size→w'.heap[k]?=w.heap[k]?:=fun k hk hlt=>(hg.block k (by simp;omega) (fun e=>hk e.symm)).trans (Below.heap_alloc _ _ _ hlt)
  have hvg:v.ownBlock=some g:=by rw [h.val];rfl
  have hgr:vr.ownBlock≠some g:=fun e=>ha g e hvg
  have hb:=h.block;refine .inr ⟨g,cap,us,h.val,h.ne,?_,h.len,h.wid,fun j x c hx hc=>?_⟩
  ·refine ⟨h.own.1,?_⟩
   rcases h.own.2 with h1 | ⟨g',cap',cur,h1,h2,h3,h4⟩
   ·exact .inl h1
   ·have e:g'=g:=by rw [h.val] at h1;simp at h1;exact h1.1.symm
    subst e;exact .inr ⟨g',cap',cur,h1,h2,(hkeep g' hgr hb.2.1).trans h3,h4⟩
  ·have hx':E (fun k=>(B≤k∧k≠g)∧vr.ownBlock≠some k) w x c:=h.kids j x c hx hc
   refine L.wide (L.kept (L.low hx') hs fun k hk _=>hkeep k hk.1.2 hk.2) fun k hk=>⟨hk.1.1,?_⟩
   rcases hat with e | e
   ·rw [e];exact hk.1.2
   ·rw [e]
    intro e'
    have:=Option.some.inj e'
    simp at this
    omega
theorem yg.addR {B N:Nat} {w w':World} {rs:List Rc} {fs:List Fc} {vr vf vr':Value} {x:Rc} {c:List Value} {ob:Obj} {us:List (List Value)} (h:yg B w rs fs vr vf)
  (hnext:∀{w':World} {v':Value} {x:Rc} {c:List Value} {ob:Obj} {N:Nat},EX RcE (fun k=>vf.ownBlock≠some k) (fun k=>N≤k) w x c→B≤N→(∀q,vr.ownBlock=some q→q<N)→c.length=3→w'.ownsRow B 74 3 v' (rs.length+1) (us.flatten++c)→(w.alloc ob).grownBy w' vr.ownBlock→(v'.ownBlock=vr.ownBlock∨v'.ownBlock=some (w.alloc ob).heap.size)→Z6 (EX RcE fun k=>vf.ownBlock≠some k) 3 74 B w' (rs++[x]) v')
  (hx:RcE (fun k=>N≤k) w x c) (hBN:B≤N) (hr:∀q,vr.ownBlock=some q→q<N) (hf:∀q,vf.ownBlock=some q→q<N) (hfw:∀q,vf.ownBlock=some q→q<w.heap.size) (hc:c.length=3) (ho:w'.ownsRow B 74 3 vr' (rs.length+1) (us.flatten++c)) (hg:(w.alloc ob).grownBy w' vr.ownBlock) (hat:vr'.ownBlock=vr.ownBlock∨vr'.ownBlock=some (w.alloc ob).heap.size):yg B w' (rs++[x]) fs vr' vf:=by
 refine ⟨hnext (xp.wide hx fun k hk=>⟨hk,fun e=>by have:=hf k e;omega⟩) hBN hr hc ho hg hat,h.f.beside YA h.apart hg hat,fun k hk e=>?_⟩
 rcases hat with e1 | e1
 ·rw [e1] at hk;exact h.apart k hk e
 ·rw [e1] at hk
  have:=Option.some.inj hk
  have h9:=hfw k e
  simp at this
  omega
theorem yg.addF {B N:Nat} {w w':World} {rs:List Rc} {fs:List Fc} {vr vf vf':Value} {x:Fc} {c:List Value} {ob:Obj} {us:List (List Value)} (h:yg B w rs fs vr vf)
  (hnext:∀{w':World} {v':Value} {x:Fc} {c:List Value} {ob:Obj} {N:Nat},EX FcE (fun k=>vr.ownBlock≠some k) (fun k=>N≤k) w x c→B≤N→(∀q,vf.ownBlock=some q→q<N)→c.length=5→w'.ownsRow B 72 5 v' (fs.length+1) (us.flatten++c)→(w.alloc ob).grownBy w' vf.ownBlock→(v'.ownBlock=vf.ownBlock∨v'.ownBlock=some (w.alloc ob).heap.size)→Z6 (EX FcE fun k=>vr.ownBlock≠some k) 5 72 B w' (fs++[x]) v')
  (hx:FcE (fun k=>N≤k) w x c) (hBN:B≤N) (hf:∀q,vf.ownBlock=some q→q<N) (hr:∀q,vr.ownBlock=some q→q<N) (hrw:∀q,vr.ownBlock=some q→q<w.heap.size) (hc:c.length=5) (ho:w'.ownsRow B 72 5 vf' (fs.length+1) (us.flatten++c)) (hg:(w.alloc ob).grownBy w' vf.ownBlock) (hat:vf'.ownBlock=vf.ownBlock∨vf'.ownBlock=some (w.alloc ob).heap.size):yg B w' rs (fs++[x]) vr vf':=by
 refine ⟨h.r.beside xp (fun k hk e=>h.apart k e hk) hg hat,hnext (YA.wide hx fun k hk=>⟨hk,fun e=>by have:=hr k e;omega⟩) hBN hf hc ho hg hat,fun k hk e=>?_⟩
 rcases hat with e1 | e1
 ·rw [e1] at e;exact h.apart k hk e
 ·rw [e1] at e
  have:=Option.some.inj e
  have h9:=hrw k hk
  simp at this
  omega
structure Pg where
 recs:List Rc
 funs:List Fc
def xy (S:Nat→Prop) (w:World) (p:Pg) (v:Value):Prop:=∃vr vf,v=.agg #[vr,vf]∧vd RcE 3 S w p.recs vr∧vd FcE 5 S w p.funs vf
theorem yg.pg {B:Nat} {w:World} {rs:List Rc} {fs:List Fc} {vr vf:Value} (h:yg B w rs fs vr vf):xy (fun k=>B≤k) w ⟨rs,fs⟩ (.agg #[vr,vf]):=by
 refine ⟨vr,vf,rfl,?_,?_⟩
 ·rcases h.r.toG (Y5 xp _) with h9 | ⟨g,cap,us,h1,h2,h3,h4,h5,h6,h7,h8,h9,h10⟩
  ·exact .inl h9
  ·exact .inr ⟨g,cap,us,h1,h2,h3,h4,h5,h6,h7,h8,h9,fun j x c hx hc=>xp.wide (h10 j x c hx hc) fun k hk=>hk.1⟩
 ·rcases h.f.toG (Y5 YA _) with h9 | ⟨g,cap,us,h1,h2,h3,h4,h5,h6,h7,h8,h9,h10⟩
  ·exact .inl h9
  ·exact .inr ⟨g,cap,us,h1,h2,h3,h4,h5,h6,h7,h8,h9,fun j x c hx hc=>YA.wide (h10 j x c hx hc) fun k hk=>hk.1⟩
theorem xy.kept {S:Nat→Prop} {w w':World} {p:Pg} {v:Value} (h:xy S w p v) (hs:w.heap.size≤w'.heap.size) (hb:∀k,S k→k<w.heap.size→w'.heap[k]?=w.heap[k]?):xy S w' p v:=by
 obtain ⟨vr,vf,rfl,h1,h2⟩:=h;exact ⟨vr,vf,rfl,h1.kept xp hs hb,h2.kept YA hs hb⟩
theorem xy.wide {S S':Nat→Prop} {w:World} {p:Pg} {v:Value} (h:xy S w p v) (hS:∀k,S k→S' k):xy S' w p v:=by
 obtain ⟨vr,vf,rfl,h1,h2⟩:=h;exact ⟨vr,vf,rfl,h1.wide xp hS,h2.wide YA hS⟩
def ZZ (f line:Nat) (ts:List Tk):Option (PR Rc):=zq (Yg ts) fun s us=>zq (Zf [123] us) fun _ us=>zq (Zm f [] us) fun l us=>zq (Zf [125] us) fun _ us=>some (.ok (⟨s,l,line⟩,us))
def ZR:Nat→List Rc→List Fc→List Tk→Option (PR Pg)
 | 0,_,_,_=>none
 | f+1,rs,fs,ts =>
  if (zx ts).k=0 then some (.ok (⟨rs,fs⟩,ts))
  else if zn (zx ts) [114,101,99,111,114,100]=true then zq (ZZ f (zx ts).line ts.tail) fun x us=>ZR f (rs++[x]) fs us
  else if zn (zx ts) [102,110]=true then zq (yX f (zx ts).line ts.tail) fun x us=>ZR f rs (fs++[x]) us
  else some (.error (zx ts).at0)
theorem xr {f line:Nat} {ts us:List Tk} {x:Rc} (h:ZZ f line ts=some (.ok (x,us))) (hE:zj ts):zj us:=by
 unfold ZZ at h
 obtain ⟨_,_,h1,h⟩:=zb h;obtain ⟨_,_,h2,h⟩:=zb h;obtain ⟨_,_,h3,h⟩:=zb h;obtain ⟨_,_,h4,h⟩:=zb h;exact Zp h (Zt h4 (x7 h3 (Zt h2 (yM h1 hE))))
theorem Xq {f line:Nat} {ts us:List Tk} {x:Fc} (h:yX f line ts=some (.ok (x,us))) (hE:zj ts):zj us:=by
 unfold yX at h
 obtain ⟨_,_,h1,h⟩:=zb h;obtain ⟨_,_,h2,h⟩:=zb h;obtain ⟨_,_,h3,h⟩:=zb h;obtain ⟨_,_,h4,h⟩:=zb h;exact Zp h ((uW f).2.1 _ _ _ h4 (zev h3 (Xp h2 (yM h1 hE))))
theorem x8 {f:Nat}:∀{pre:List Pm} {ts:List Tk} {r:PR (List Pm)},Zm f pre ts=some r→Zm (f+1) pre ts=some r:=by
 induction f with
 | zero=>intro pre ts r h;simp [Zm] at h
 | succ f ih =>
  intro pre ts r h;rw [Zm] at h ⊢;cases hb:YE ts with
  | error a=>rw [hb] at h;exact h
  | ok y =>
   rw [hb] at h;simp only at h ⊢
   split at h
   ·rename_i hc;rw [if_pos hc];exact ih h
   ·rename_i hc;rw [if_neg hc];exact h
theorem ux {f line:Nat} {ts:List Tk} {r:PR Rc} (h:ZZ f line ts=some r):ZZ (f+1) line ts=some r:=by
 unfold ZZ at h ⊢
 exact YF h fun _ _ _ h=>YF h fun _ _ _ h=>zJ h (fun _=>x8) fun _ _ _ h=>h
theorem qu {f line:Nat} {ts:List Tk} {r:PR Fc} (h:yX f line ts=some r):yX (f+1) line ts=some r:=by
 unfold yX at h ⊢
 refine YF h fun _ _ _ h=>zJ h (fun _ h=>?_) fun _ _ _ h=>YF h fun _ _ _ h=>zJ h ((QO f).2.1 _) fun _ _ _ h=>h
 unfold Y9 at h ⊢
 refine YF h fun _ _ _ h=>?_
 split at h
 ·rename_i hc;rw [if_pos hc];exact h
 ·rename_i hc;rw [if_neg hc];exact zJ h (fun _=>x8) fun _ _ _ h=>h
theorem qv {f k line:Nat} {ts:List Tk} {r:PR Rc} (h:ZZ f line ts=some r):ZZ (f+k) line ts=some r:=by
 induction k with
 | zero=>exact h
 | succ k ih=>exact ux ih
theorem zbI {f k line:Nat} {ts:List Tk} {r:PR Fc} (h:yX f line ts=some r):yX (f+k) line ts=some r:=by
 induction k with
 | zero=>exact h
 | succ k ih=>exact qu ih
theorem vE (n:Nat):∀(ts:List Tk),ts.length≤n→zj ts→∀pre,Yd (fun f=>Zm f pre ts) (n-1):=by
 induction n with
 | zero=>intro ts hl hE;have:=hE.pos;omega
 | succ n ih =>
  intro ts hl hE pre;cases hb:YE ts with
  | error a=>exact (vW a n).step fun f=>by rw [Zm,hb]
  | ok y =>
   obtain ⟨p,us⟩:=y;obtain ⟨hE1,hl1⟩:=Xz hb hE
   by_cases hc:zn (zx us) [44]=true
   ·have hne:=Zq hc
    exact ((ih us.tail (by omega) (zT hE1 hc) (pre++[p])).le (by omega)).step fun f=>by rw [Zm,hb];simp only [if_pos hc]
   ·exact (Z3 (pre++[p]) us (n:=n) (by omega) hE1).step fun f=>by rw [Zm,hb];simp only [if_neg hc]
theorem uy (line:Nat) {n:Nat} (ts:List Tk) (hl:ts.length≤n+1) (hE:zj ts):Yd (fun f=>ZZ f line ts) n:=by
 unfold ZZ
 refine (VV ts (n:=n) hl hE).then (q:=fun f s us=>zq (Zf [123] us) fun _ us=>zq (Zm f [] us) fun l us=>zq (Zf [125] us) fun _ us=>some (.ok ((⟨s,l,line⟩:Rc),us))) fun s us hu hEu=>?_
 refine (y7 [123] us (n:=n) (by omega) hEu).then (q:=fun f _ us=>zq (Zm f [] us) fun l us=>zq (Zf [125] us) fun _ us=>some (.ok ((⟨s,l,line⟩:Rc),us))) fun _ us hu hEu=>?_
 refine (vE n us hu hEu []).then (q:=fun f l us=>zq (Zf [125] us) fun _ us=>some (.ok ((⟨s,l,line⟩:Rc),us))) fun l us hu hEu=>?_
 exact (y7 [125] us (n:=n) (by omega) hEu).then (q:=fun f _ us=>some (.ok ((⟨s,l,line⟩:Rc),us))) fun _ us hu hEu=>Z3 _ _ hu hEu
theorem qw (line:Nat) {n:Nat} (ts:List Tk) (hl:ts.length≤n+1) (hE:zj ts):Yd (fun f=>yX f line ts) n:=by
 unfold yX
 refine (VV ts (n:=n) hl hE).then (q:=fun f s us=>zq (Y9 f us) fun l us=>zq (vY us) fun t us=>zq (zU f us) fun b us=>some (.ok ((⟨s,l,t,b,line⟩:Fc),us))) fun s us hu hEu=>?_
 have hB:Yd (fun f=>Y9 f us) n:=by
  unfold Y9
  refine (y7 [40] us (n:=n) (by omega) hEu).then (q:=fun f _ us=>if zn (zx us) [41]=true then some (.ok ([],us.tail)) else zq (Zm f [] us) fun l us=>zq (Zf [41] us) fun _ us=>some (.ok (l,us))) fun _ us hu hEu=>?_
  by_cases hc:zn (zx us) [41]=true
  ·have hne:=Zq hc
   simp only [if_pos hc];exact Z3 _ _ (by omega) (zT hEu hc)
  ·simp only [if_neg hc]
   exact (vE n us hu hEu []).then (q:=fun f l us=>zq (Zf [41] us) fun _ us=>some (.ok (l,us))) fun l us hu hEu=>(y7 [41] us (n:=n) (by omega) hEu).then (q:=fun f _ us=>some (.ok (l,us))) fun _ us hu hEu=>Z3 _ _ hu hEu
 refine hB.then (q:=fun f l us=>zq (vY us) fun t us=>zq (zU f us) fun b us=>some (.ok ((⟨s,l,t,b,line⟩:Fc),us))) fun l us hu hEu=>?_
 have hR:Yd (fun _=>vY us) n:=by
  by_cases hc:zn (zx us) [58]=true
  ·have hne:=Zq hc
   refine ⟨0,yF 0 us.tail,fun _=>by unfold vY;rw [if_pos hc],fun x us' e=>?_⟩
   have:=Y0 _ _ _ _ e (zT hEu hc)
   exact ⟨by omega,this.1⟩
  ·refine ⟨0,.ok ([],us),fun _=>by unfold vY;rw [if_neg hc],fun x us' e=>?_⟩
   cases e
   exact ⟨hu,hEu⟩
 refine hR.then (q:=fun f t us=>zq (zU f us) fun b us=>some (.ok ((⟨s,l,t,b,line⟩:Fc),us))) fun t us hu hEu=>?_
 exact (qh n us hu hEu).2.1.then (q:=fun f b us=>some (.ok ((⟨s,l,t,b,line⟩:Fc),us))) fun b us hu hEu=>Z3 _ _ (by omega) hEu
theorem qy (n:Nat):∀(ts:List Tk),ts.length≤n→zj ts→∀rs fs,Yd (fun f=>ZR f rs fs ts) n:=by
 induction n with
 | zero=>intro ts hl hE;have:=hE.pos;omega
 | succ n ih =>
  intro ts hl hE rs fs
  by_cases h0:(zx ts).k=0
  ·exact (Z3 (⟨rs,fs⟩:Pg) ts hl hE).step fun f=>by rw [ZR,if_pos h0]
  by_cases h1:zn (zx ts) [114,101,99,111,114,100]=true
  ·have hne:=Zq h1
   have hE1:=zT hE h1;have hpos:=hE1.pos;exact ((uy (zx ts).line (n:=n-1) ts.tail (by omega) hE1).then (q:=fun f x us=>ZR f (rs++[x]) fs us) (m:=n+1) fun x us hu hEu=>(ih us (by omega) hEu _ _).le (by omega)).step fun f=>by rw [ZR,if_neg h0,if_pos h1]
  by_cases h2:zn (zx ts) [102,110]=true
  ·have hne:=Zq h2
   have hE1:=zT hE h2;have hpos:=hE1.pos;exact ((qw (zx ts).line (n:=n-1) ts.tail (by omega) hE1).then (q:=fun f x us=>ZR f rs (fs++[x]) us) (m:=n+1) fun x us hu hEu=>(ih us (by omega) hEu _ _).le (by omega)).step fun f=>by rw [ZR,if_neg h0,if_neg h1,if_pos h2]
  ·exact (vW _ _).step fun f=>by rw [ZR,if_neg h0,if_neg h1,if_neg h2]
end Go.Proofs.YtpejpbbdgblbeaaGreatDoor
