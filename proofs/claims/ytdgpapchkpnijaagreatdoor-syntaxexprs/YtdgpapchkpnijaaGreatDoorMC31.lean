import Derived.Test.YtdgpapchkpnijaaGreatDoorMC20
import Derived.Test.YtdgpapchkpnijaaGreatDoorSProg
import Derived.Test.YtdgpapchkpnijaaGreatDoorShelf
import Derived.Test.YtdgpapchkpnijaaGreatDoorMC22
import Derived.Test.YtdgpapchkpnijaaGreatDoorMC16
namespace Go.Proofs.YtdgpapchkpnijaaGreatDoor
open Go.RowKit Go.Shelf
set_option maxHeartbeats 16000000
set_option maxRecDepth 100000
theorem zaL (c:UInt8) (n:Nat) (w:World) (hn:n≤1099511627776):Calls Tryz.prog 141 #[.string ⟨#[c]⟩,.int .i64 n] w fun e w'=>e=.returned (.string (za (List.replicate n c)))∧Below w.heap.size w w':=by
 have h:=Tryz.strings_Repeat ⟨#[c]⟩ n w (by omega) (by show 1*n≤_;omega)
 refine h.mono fun e w' h9=>⟨?_,h9.2⟩
 rw [h9.1];have e:=Lib.repeatL_replicate c 1 n;rw [show List.replicate 1 c=[c] from rfl,Nat.mul_one] at e
 show Ending.returned (.string ⟨(Lib.repeatL [c] n).toArray⟩)=_
 rw [e]
theorem v7 (r g o cap:Nat) (ts:List Tk) (w:World) (hE:zk ts) (h:zg r g o cap ts w):Calls Tryz.prog 106 #[.pointer (some ⟨r,0,none⟩)] w (Qo r g w (YI 0 ts)) :=
 zeA r g o cap ts w h hE hE.names zaL
theorem zb7 (r g o cap:Nat) (ts:List Tk) (w:World) (hE:zk ts) (h:zg r g o cap ts w):Calls Tryz.prog 104 #[.pointer (some ⟨r,0,none⟩)] w (Qp r g w (Yj ts)) :=
 zdT r g o cap ts w h hE fun us w1 o1 cap1 _ hE1 h1=>v7 r g o1 cap1 us w1 hE1 h1
theorem uH (r g o cap F:Nat) (ts:List Tk) (w:World) (res:PR (List Pm)) (hp:Zl F [] ts=some res) (hE:zk ts) (h:zg r g o cap ts w) :
  Calls Tryz.prog 103 #[.pointer (some ⟨r,0,none⟩),.func (.func 104) #[.pointer (some ⟨r,0,none⟩)] #[]] w (Qq r g w res) :=
 zcS r g o cap F ts w res h hE (YZ hp) fun w1 o1 cap1 ts1 hE1 h1 _=>zb7 r g o1 cap1 ts1 w1 hE1 h1
theorem zc8 (r g o cap F:Nat) (ts:List Tk) (w:World) (R:PR (List Pm)) (hp:xA F ts=some R) (hE:zk ts) (h:zg r g o cap ts w) :
  Calls Tryz.prog 105 #[.pointer (some ⟨r,0,none⟩),.func (.func 104) #[.pointer (some ⟨r,0,none⟩)] #[]] w (zbh r g w R):=by
 obtain ⟨t,us,rfl⟩:=hE.cons
 unfold xA zV at hp
 simp only [zC,List.tail_cons] at hp
 by_cases h1:zo t [40]=true
 ·have hE1:=hE.tail (zi h1)
  simp only [if_pos h1,zn] at hp
  by_cases h2:zo (zz us) [41]=true
  ·simp only [if_pos h2,Option.some.injEq] at hp
   have e:R=Yd t us (.error 0):=by unfold Yd;rw [if_pos h1,if_pos h2];exact hp.symm
   rw [e];exact XB r g o cap _ t us w (.error 0) h hE (fun _ _ e=>by cases e) fun _ h9=>absurd h2 (by rw [h9];decide)
  ·simp only [if_neg h2] at hp
   cases h3:Zl F [] us with
   | none=>rw [h3] at hp;cases hp
   | some r3 =>
    rw [h3] at hp
    have e:R=Yd t us r3:=by
     unfold Yd
     rw [if_pos h1,if_neg h2];rcases r3 with a | ⟨l,us3⟩
     ·simp only [Option.some.injEq] at hp
      exact hp.symm
     ·simp only at hp ⊢
      by_cases h4:zo (zz us3) [41]=true
      ·simp only [if_pos h4,Option.some.injEq] at hp ⊢
       exact hp.symm
      ·simp only [if_neg h4,Option.some.injEq] at hp ⊢
       exact hp.symm
    rw [e];exact XB r g o cap _ t us w r3 h hE (fun l us3 e=>by subst e;exact YY h3 hE1) fun _ _ w1 o1 cap1 hR hK=>uH r g o1 cap1 F us w1 r3 h3 hE1 hR
 ·simp only [if_neg h1,zn,Option.some.injEq] at hp
  have e:R=Yd t us (.error 0):=by unfold Yd;rw [if_neg h1];exact hp.symm
  rw [e];exact XB r g o cap _ t us w (.error 0) h hE (fun _ _ e=>by cases e) fun h9=>absurd h9 h1
theorem QK (r g o cap F:Nat) (hrl:r≠1) (ts:List Tk) (w:World) (res:PR Pg) (hp:ZS F [] [] ts=some res) (hE:zk ts) (h:zg r g o cap ts w) (hl:Zy w) :
  Calls Tryz.prog 25 #[.pointer (some ⟨r,0,none⟩)] w (zc7 r g w res) :=
 zb6 r g o cap F ts w res h hE hp
  (fun w1 o1 cap1 ts1 r1 line hb hE1 hR _=>qr r g o1 cap1 line F ts1 w1 r1 hR hE1 hb fun w2 o2 cap2 ts2 r2 hb2 hE2 hR2 _=>uH r g o2 cap2 F ts2 w2 r2 hb2 hE2 hR2)
  (fun w1 o1 cap1 ts1 r1 line hb hE1 hR hK=>zeW r g o1 cap1 line F ts1 w1 r1 hR hE1 hb (fun w2 o2 cap2 ts2 r2 hb2 hE2 hR2 _=>zc8 r g o2 cap2 F ts2 w2 r2 hb2 hE2 hR2) (fun w2 o2 cap2 ts2 hE2 hR2 _=>v7 r g o2 cap2 ts2 w2 hE2 hR2) (fun w2 o2 cap2 ts2 r2 hb2 hE2 hR2 hK2=>(zeV r g hrl F).block w2 o2 cap2 ts2 r2 hb2 hE2 hR2 (hl.kept (hK.trans hK2) hrl)))
theorem Zo {s:List UInt8} {ts us:List Tk} {y:Unit} (h:zV s ts=some (.ok (y,us))):us.length+1=ts.length:=by
 unfold zV at h
 split at h
 ·rename_i hi
  simp only [Option.some.injEq,Except.ok.injEq,Prod.mk.injEq] at h;rw [←h.2];exact Zh hi
 ·simp at h
theorem Y3 {s:List UInt8} {ts us:List Tk} (h:yB ts=some (.ok (s,us))):us.length+1=ts.length:=by
 unfold yB at h
 split at h
 ·rename_i hi
  simp only [Option.some.injEq,Except.ok.injEq,Prod.mk.injEq] at h;rw [←h.2];exact yS (by omega)
 ·simp at h
theorem zA {α:Type} {x y:α} {ts us:List Tk} (h:(some (.ok (x,ts)):Option (PR α))=some (.ok (y,us))):x=y∧ts=us:=by
 simpa using h
theorem XI (f:Nat) :
  (∀least ts x us,zh f least ts=some (.ok (x,us))→depthE x+us.length≤ts.length)∧(∀least e ts x us T,ZI f least e ts=some (.ok (x,us))→depthE e+ts.length≤T→depthE x+us.length≤T) ∧
  (∀ts x us,Zw f ts=some (.ok (x,us))→depthE x+us.length≤ts.length)∧(∀e ts x us T,zH f e ts=some (.ok (x,us))→depthE e+ts.length≤T→depthE x+us.length≤T)∧(∀ts x us,zP f ts=some (.ok (x,us))→depthE x+us.length≤ts.length) ∧
  (∀pre ts l us T,yy f pre ts=some (.ok (l,us))→depthL pre+ts.length≤T→depthL l+us.length≤T)∧(∀ts l us,zK f ts=some (.ok (l,us))→depthL l+us.length+1≤ts.length):=by
 induction f with
 | zero=>refine ⟨?_,?_,?_,?_,?_,?_,?_⟩ <;> intros <;> simp_all [zh,ZI,Zw,zH,zP,yy,zK]
 | succ f ih =>
  obtain ⟨i1,i2,i3,i4,i5,i6,i7⟩:=ih;refine ⟨fun least ts x us h=>?_,fun least e ts x us T h hT=>?_,fun ts x us h=>?_,fun e ts x us T h hT=>?_,fun ts x us h=>?_,fun pre ts l us T h hT=>?_,fun ts l us h=>?_⟩
  ·rw [zh] at h
   split at h
   ·exact i3 _ _ _ h
   ·obtain ⟨y,vs,h1,h2⟩:=zd h
    exact i2 _ _ _ _ _ _ h2 (i1 _ _ _ _ h1)
  ·rw [ZI] at h
   split at h
   ·rename_i hc
    obtain ⟨y,vs,h1,h2⟩:=zd h;have a:=i1 _ _ _ _ h1;have b:=yS (ts:=ts) (by omega)
    have d:1≤depthE y:=by cases y;simp [depthE]
    refine i2 _ _ _ _ _ _ h2 ?_;simp only [depthE,depthL];omega
   ·obtain ⟨rfl,rfl⟩:=zA h;exact hT
  ·rw [Zw] at h
   split at h
   ·rename_i hc
    obtain ⟨y,vs,h1,h2⟩:=zd h;have a:=i3 _ _ _ h1;have b:=yS (ts:=ts) (by omega)
    obtain ⟨rfl,rfl⟩:=zA h2;simp only [depthE,depthL];omega
   ·obtain ⟨y,vs,h1,h2⟩:=zd h
    exact i4 _ _ _ _ _ h2 (i5 _ _ _ h1)
  ·rw [zH] at h
   split at h
   ·rename_i hc
    obtain ⟨y,vs,h1,h2⟩:=zd h;obtain ⟨z,vs',h3,h4⟩:=zd h2;have a:=i1 _ _ _ _ h1;have b:=Zh hc;have c:=Zo h3;have d:1≤depthE y:=by cases y;simp [depthE]
    refine i4 _ _ _ _ _ h4 ?_;simp only [depthE,depthL];omega
   ·split at h
    ·rename_i hc
     obtain ⟨y,vs,h1,h2⟩:=zd h;have b:=Zh hc;have c:=Y3 h1;refine i4 _ _ _ _ _ h2 ?_;simp only [depthE,depthL];omega
    ·obtain ⟨rfl,rfl⟩:=zA h;exact hT
  ·rw [zP] at h
   split at h
   ·rename_i hc
    have b:=yS (ts:=ts) (by omega)
    obtain ⟨rfl,rfl⟩:=zA h;simp only [depthE,depthL];omega
   ·split at h
    ·rename_i hc
     have b:=yS (ts:=ts) (by omega)
     obtain ⟨rfl,rfl⟩:=zA h;simp only [depthE,depthL];omega
    ·split at h
     ·rename_i hc
      have b:=yS (ts:=ts) (by omega)
      split at h
      ·obtain ⟨y,vs,h1,h2⟩:=zd h
       have a:=i7 _ _ _ h1;obtain ⟨rfl,rfl⟩:=zA h2;simp only [depthE];omega
      ·obtain ⟨rfl,rfl⟩:=zA h
       simp only [depthE,depthL];omega
     ·split at h
      ·rename_i hc
       have b:=Zh hc;obtain ⟨rfl,rfl⟩:=zA h;simp only [depthE,depthL];omega
      ·split at h
       ·rename_i hc
        have b:=Zh hc;obtain ⟨rfl,rfl⟩:=zA h;simp only [depthE,depthL];omega
       ·split at h
        ·rename_i hc
         have b:=Zh hc;obtain ⟨s,vs,h1,h2⟩:=zd h;obtain ⟨y,vs',h3,h4⟩:=zd h2;have a:=i7 _ _ _ h3;have c:=Y3 h1;obtain ⟨rfl,rfl⟩:=zA h4;simp only [depthE];omega
        ·split at h
         ·rename_i hc
          have b:=Zh hc;obtain ⟨y,vs,h1,h2⟩:=zd h;obtain ⟨z,vs',h3,h4⟩:=zd h2;have a:=i6 _ _ _ _ _ h1 (Nat.le_refl _);have c:=Zo h3;obtain ⟨rfl,rfl⟩:=zA h4;simp only [depthE,depthL] at a ⊢;omega
         ·obtain ⟨z,vs,h1,h2⟩:=zd h
          obtain ⟨y,vs',h3,h4⟩:=zd h2;obtain ⟨z',vs'',h5,h6⟩:=zd h4;have a:=i1 _ _ _ _ h3;have b:=Zo h1;have c:=Zo h5;obtain ⟨rfl,rfl⟩:=zA h6;omega
  ·rw [yy] at h
   obtain ⟨y,vs,h1,h2⟩:=zd h;have a:=i1 _ _ _ _ h1
   split at h2
   ·rename_i hc
    have b:=Zh hc;refine i6 _ _ _ _ _ h2 ?_;rw [YE];simp only [depthL];omega
   ·obtain ⟨rfl,rfl⟩:=zA h2
    rw [YE];simp only [depthL];omega
  ·rw [zK] at h
   obtain ⟨z,vs,h1,h2⟩:=zd h;have b:=Zo h1
   split at h2
   ·rename_i hc
    have c:=Zh hc;obtain ⟨rfl,rfl⟩:=zA h2;simp only [depthL];omega
   ·obtain ⟨y,vs',h3,h4⟩:=zd h2
    obtain ⟨z',vs'',h5,h6⟩:=zd h4;have a:=i6 _ _ _ _ _ h3 (Nat.le_refl _);have c:=Zo h5;obtain ⟨rfl,rfl⟩:=zA h6;simp only [depthL] at a;omega
theorem uI:∀(f:Nat) (m:List UInt8) (a:Nat) (r:List UInt8),(zT f m a r).k≠1
 | 0,_,_,_=>by simp [zT]
 | _+1,_,_,[]=>by simp [zT]
 | f+1,m,a,x::r=>by
  unfold zT
  split
  ·simp
  ·split
   ·simp
   ·split
    ·simp
    ·exact uI f _ _ _
theorem zb8 (l:List UInt8) (h:(zR l).k=1):(zR l).s.length≤20:=by
 unfold zR at h ⊢
 cases l with
 | nil=>simp at h
 | cons x r =>
  simp only at h ⊢
  split at h
  ·rename_i hc
   rw [if_pos hc]
   unfold Z4 at h ⊢
   split at h
   ·simp at h
   ·rename_i h1
    rw [if_neg h1]
    split at h
    ·simp at h
    ·rename_i h2
     rw [if_neg h2];simp only;omega
  ·rename_i hc
   rw [if_neg hc]
   split at h
   ·unfold Yr at h
    split at h <;> simp at h
   ·rename_i hd
    rw [if_neg hd]
    split at h
    ·exact absurd h (uI _ _ _ _)
    ·unfold yH at h
     split at h <;> simp at h
theorem zaM (l:List UInt8) (line a:Nat):NmT (tkT l line a):=fun h=>by
 have:=zb8 _ (show (zR (l.drop (a+yA (l.drop a)))).k=1 from h)
 have e:(tkT l line a).s=(zR (l.drop (a+yA (l.drop a)))).s:=rfl;rw [e];omega
theorem zaN (l:List UInt8):∀(f line a:Nat),a≤l.length→l.length<a+f→(scanS l f line a).2.2=0→zk (scanS l f line a).1:=by
 intro f
 induction f with
 | zero=>intro line a ha hf;omega
 | succ f ih =>
  intro line a ha hf h;rw [scanS] at h ⊢
  split at h
  ·rename_i he;exact absurd h he
  ·rename_i he
   rw [if_neg he];have he0:(zM l a).e=0:=by simpa using he
   split at h
   ·rename_i hk
    rw [if_pos hk];exact hk
   ·rename_i hk
    rw [if_neg hk]
    split at h
    ·rename_i h2;exact absurd h h2
    ·rename_i h2
     rw [if_neg h2];have hm:=Ys ha he0 hk;have hr:=ih (ZP l line a) (zF l a+(zM l a).sz) hm.2 (by omega) (by simpa using h2)
     obtain ⟨t,ts,hts⟩:=hr.cons;simp only [hts] at hr ⊢;exact ⟨hk,zaM l line a,hr⟩
theorem vG (l:List UInt8) (h:(zv l).2.2=0):zk (zv l).1:=by
 unfold zv at h ⊢
 split at h
 ·simp at h
 ·rename_i hl
  rw [if_neg hl];exact zaN l _ _ _ (Nat.zero_le _) (by omega) h
theorem zaO (f:Nat) :
  (∀ts x us,yd f ts=some (.ok (x,us))→ZJ x+us.length≤ts.length)∧(∀ts l us,Zb f ts=some (.ok (l,us))→depthSs l+us.length+1≤ts.length)∧(∀pre ts l us T,yg f pre ts=some (.ok (l,us))→depthSs pre+ts.length≤T→depthSs l+us.length≤T):=by
 induction f with
 | zero=>refine ⟨?_,?_,?_⟩ <;> intros <;> simp_all [yd,Zb,yg]
 | succ f ih =>
  obtain ⟨i1,i2,i3⟩:=ih;have b1:=(XI f).1;refine ⟨fun ts x us h=>?_,fun ts l us h=>?_,fun pre ts l us T h hT=>?_⟩
  ·rw [yd] at h
   split at h
   ·rename_i hc
    obtain ⟨_,_,h1,h⟩:=zd h;obtain ⟨_,_,h2,h⟩:=zd h;obtain ⟨_,_,h3,h⟩:=zd h;obtain ⟨_,_,h4,h⟩:=zd h;have l0:=Zh hc;have l1:=Y3 h1;have l2:=Zo h2;have l3:=b1 _ _ _ _ h3;have l4:=Zo h4;obtain ⟨rfl,rfl⟩:=zA h;simp only [ZJ,depthSs,depthL];omega
   ·split at h
    ·rename_i hc
     obtain ⟨_,_,h1,h⟩:=zd h;obtain ⟨_,_,h2,h⟩:=zd h;have l0:=Zh hc;have l1:=b1 _ _ _ _ h1;have l2:=i2 _ _ _ h2
     split at h
     ·rename_i hc
      obtain ⟨_,_,h3,h⟩:=zd h;have l3:=Zh hc;have l4:=i2 _ _ _ h3;obtain ⟨rfl,rfl⟩:=zA h;simp only [ZJ,depthL];omega
     ·obtain ⟨rfl,rfl⟩:=zA h
      simp only [ZJ,depthSs,depthL];omega
    ·split at h
     ·rename_i hc
      obtain ⟨_,_,h1,h⟩:=zd h;obtain ⟨_,_,h2,h⟩:=zd h;have l0:=Zh hc;have l1:=b1 _ _ _ _ h1;have l2:=i2 _ _ _ h2;obtain ⟨rfl,rfl⟩:=zA h;simp only [ZJ,depthSs,depthL];omega
     ·split at h
      ·rename_i hc
       have l0:=Zh hc
       split at h
       ·rename_i hc2
        have l1:=Zh hc2;obtain ⟨rfl,rfl⟩:=zA h;simp only [ZJ,depthSs,depthL];omega
       ·obtain ⟨_,_,h1,h⟩:=zd h
        obtain ⟨_,_,h2,h⟩:=zd h;have l1:=b1 _ _ _ _ h1;have l2:=Zo h2;obtain ⟨rfl,rfl⟩:=zA h;simp only [ZJ,depthSs,depthL];omega
      ·obtain ⟨_,_,h1,h⟩:=zd h
       have l1:=b1 _ _ _ _ h1
       split at h
       ·rename_i hc
        have l2:=Zh hc
        split at h
        ·obtain ⟨_,_,h2,h⟩:=zd h
         obtain ⟨_,_,h3,h⟩:=zd h;have l3:=b1 _ _ _ _ h2;have l4:=Zo h3;obtain ⟨rfl,rfl⟩:=zA h;simp only [ZJ,depthSs,depthL];omega
        ·simp at h
       ·obtain ⟨_,_,h2,h⟩:=zd h
        have l2:=Zo h2;obtain ⟨rfl,rfl⟩:=zA h;simp only [ZJ,depthSs,depthL];omega
  ·rw [Zb] at h
   obtain ⟨_,us1,h1,h⟩:=zd h;have l1:=Zo h1;have l2:=i3 _ _ _ _ us1.length h (by simp [depthSs])
   omega
  ·rw [yg] at h
   split at h
   ·rename_i hc
    have l0:=Zh hc;obtain ⟨rfl,rfl⟩:=zA h;omega
   ·obtain ⟨y,us1,h1,h⟩:=zd h
    have l1:=i1 _ _ _ h1;refine i3 _ _ _ _ T h ?_;rw [xj];simp only [depthSs];omega
theorem QL {f:Nat} {ts us:List Tk} {l:List Pm} (h:Zl f [] ts=some (.ok (l,us))) (hE:zk ts):us.length<ts.length:=by
 have hpos:=hE.pos;obtain ⟨f',r',h1,h2⟩:=Xq ts.length ts (Nat.le_refl _) hE []
 have a:∀k,Zl (f+k) [] ts=some (.ok (l,us)):=by
  intro k
  induction k with
  | zero=>exact h
  | succ k ih=>exact YZ ih
 have b:=h1 f;have a:=a f';rw [Nat.add_comm] at a;have e:=Option.some.inj (a.symm.trans b)
 have:=(h2 l us e.symm).1
 omega
theorem zb9 {f:Nat} {ts us:List Tk} {l:List Pm} (h:xA f ts=some (.ok (l,us))) (hE:zk ts):us.length≤ts.length:=by
 unfold xA at h
 obtain ⟨_,us1,h1,h⟩:=zd h;have l1:=Zo h1;have hE1:=Zj h1 hE
 split at h
 ·rename_i hc
  have l2:=Zh hc;obtain ⟨rfl,rfl⟩:=zA h;omega
 ·obtain ⟨_,us2,h2,h⟩:=zd h
  obtain ⟨_,us3,h3,h⟩:=zd h;have l2:=QL h2 hE1;have l3:=Zo h3;obtain ⟨rfl,rfl⟩:=zA h;omega
theorem zc9 {ts us:List Tk} {s:List UInt8} (h:uB ts=some (.ok (s,us))) (hE:zk ts):us.length≤ts.length:=by
 unfold uB at h
 split at h
 ·rename_i hc
  have l1:=Zh hc
  have:=(Yu _ _ _ _ (Option.some.inj h) (zU hE hc)).2
  omega
 ·obtain ⟨rfl,rfl⟩:=zA h
  omega
theorem zaP {f line:Nat} {ts us:List Tk} {x:Fc} (h:Ym f line ts=some (.ok (x,us))) (hE:zk ts):depthSs x.body+us.length≤ts.length:=by
 unfold Ym at h
 obtain ⟨_,us1,h1,h⟩:=zd h;obtain ⟨_,us2,h2,h⟩:=zd h;obtain ⟨_,us3,h3,h⟩:=zd h;obtain ⟨b,us4,h4,h⟩:=zd h;have hE1:=y8 h1 hE;have hE2:=vD h2 hE1;have l1:=Y3 h1;have l2:=zb9 h2 hE1;have l3:=zc9 h3 hE2;have l4:=(zaO f).2.1 _ _ _ h4;obtain ⟨rfl,rfl⟩:=zA h;simp only;omega
theorem vH (T:Nat):∀(f:Nat) (rs:List Rc) (fs:List Fc) (ts us:List Tk) (p:Pg),ZS f rs fs ts=some (.ok (p,us))→zk ts→depthFs fs+ts.length≤T→depthFs p.funs+us.length≤T
 | 0,_,_,_,_,_,h,_,_=>by simp [ZS] at h
 | f+1,rs,fs,ts,us,p,h,hE,hT=>by
  rw [ZS] at h
  split at h
  ·obtain ⟨rfl,rfl⟩:=zA h
   exact hT
  ·split at h
   ·rename_i hc
    have l0:=Zh hc;have hE0:=zU hE hc;obtain ⟨x,us1,h1,h⟩:=zd h;have l1:=VK h1 hE0;exact vH T f _ _ _ _ _ h (Xp h1 hE0) (by omega)
   ·split at h
    ·rename_i hc
     have l0:=Zh hc;have hE0:=zU hE hc;obtain ⟨x,us1,h1,h⟩:=zd h;have l1:=zaP h1 hE0;refine vH T f _ _ _ _ _ h (vE h1 hE0) ?_;rw [xk];simp only [depthFs];omega
    ·simp at h
abbrev Yx (B:Nat) (w:World) (p:Pg) (v:Value):Prop:=Xx (fun k=>B≤k) w p v
theorem Yx.kept {B:Nat} {w w':World} {p:Pg} {v:Value} (h:Yx B w p v) (hs:w.heap.size≤w'.heap.size) (hb:∀k,B≤k→k<w.heap.size→w'.heap[k]?=w.heap[k]?):Yx B w' p v:=Xx.kept h hs hb
theorem Yx.mono {B B':Nat} {w:World} {p:Pg} {v:Value} (h:Yx B w p v) (hb:B'≤B):Yx B' w p v:=Xx.wide h fun k hk=>by omega
abbrev xY:Pg:=⟨[],[]⟩
theorem zda (B:Nat) (w:World):Yx B w xY (.agg #[.slice none 0 0,.slice none 0 0]):=(yM.nil B w).pg
abbrev XJ (w:World) (N:Nat) (a b:Value):World:=(w.setCell ⟨N,0,none⟩ a).setCell ⟨N,1,none⟩ b
theorem xm {w:World} {N:Nat} {x0 x1:Value} {ty:TypeId} (h:w.heap[N]?=some (.cells #[x0,x1] ty (0,0))) (a b:Value) :
  (XJ w N a b).cell? ⟨N,0,none⟩=some a∧(XJ w N a b).cell? ⟨N,1,none⟩=some b:=by
 obtain ⟨q0,q1,-⟩:=ZL h;exact ⟨(World.cell?_setCell_other _ _ _ _ (by simp)).trans (World.cell?_setCell_same _ _ _ q0),World.cell?_setCell_same _ _ _ ((World.cell?_setCell_other _ _ _ _ (by simp)).trans q1)⟩
theorem Vz (w:World) (N:Nat) (a b:Value) {k:Nat} (hk:k≠N):(XJ w N a b).heap[k]?=w.heap[k]?:=by
 rw [Below.heap_setCell _ _ _ _ (by simpa using hk),Below.heap_setCell _ _ _ _ (by simpa using hk)]
theorem zaQ {w:World} {N:Nat} {x0 x1:Value} {ty:TypeId} (h:w.heap[N]?=some (.cells #[x0,x1] ty (0,0))) (a b:Value):(XJ w N a b).heap[N]?=some (.cells #[a,b] ty (0,0)) :=
 zp b (zp a h)
theorem vI:∀(f:Nat) (rs:List Rc) (fs:List Fc) (ts us:List Tk) (p:Pg),ZS f rs fs ts=some (.ok (p,us))→zk ts→zk us
 | 0,_,_,_,_,_,h,_=>by simp [ZS] at h
 | f+1,rs,fs,ts,us,p,h,hE=>by
  rw [ZS] at h
  split at h
  ·obtain ⟨rfl,rfl⟩:=zA h
   exact hE
  ·split at h
   ·rename_i hc
    obtain ⟨x,us1,h1,h⟩:=zd h;exact vI f _ _ _ _ _ h (Xp h1 (zU hE hc))
   ·split at h
    ·rename_i hc
     obtain ⟨x,us1,h1,h⟩:=zd h;exact vI f _ _ _ _ _ h (vE h1 (zU hE hc))
    ·simp at h
def Yb (res:PR Pg):Except Nat Pg :=
 match res with
 | .error a=>.error a
 | .ok (x,us)=>if (zz us).k=0 then .ok x else .error (zz us).at0
def VA (r B2:Nat) (w:World) (res:Except Nat Pg) (e:Ending) (w':World):Prop :=
 YU r B2 w w'∧match res with
  | .error a=>e=ZF a
  | .ok x=>e=.returned (.tuple #[])∧∃(s0:Option Addr) (s1 s2:Nat) (d0:Option Addr) (d1 d2:Nat),w'.heap[B2]?=some (.cells #[.slice s0 s1 s2,.slice d0 d1 d2] 25 (0,0))∧Yx w.heap.size w' x (.agg #[.slice s0 s1 s2,.slice d0 d1 d2])
theorem zea (r g o cap B0 B1 B2 f ty0 ty1:Nat) (ts:List Tk) (w:World) (res:PR Pg) (h:zg r g o cap ts w) (hE:zk ts) (hl:Zy w) (hrl:r≠1) (hp:ZS f [] [] ts=some res)
  (b0:w.heap[B0]?=some (.cells #[.func (.func 25) #[] #[]] ty0 (0,0))) (b1:w.heap[B1]?=some (.cells #[.pointer (some ⟨r,0,none⟩)] ty1 (0,0))) (b2:w.heap[B2]?=some Xd) (h1:B1≠r) (h2:B2≠r) (h3:B2≠g) (h4:B1≠B2) :
  Calls Tryz.prog 55 #[.pointer (some ⟨B0,0,none⟩),.pointer (some ⟨B1,0,none⟩),.pointer (some ⟨B2,0,none⟩)] w (VA r B2 w (Yb res)):=by
 generalize hres:Yb res=R;obtain ⟨t0,ts0,rfl⟩:=hE.cons;have ce:=QK r g o cap f hrl _ w res hp hE h hl;have c0:w.cell? ⟨B0,0,none⟩=some (.func (.func 25) #[] #[]):=by simp only [World.cell?,b0];rfl
 have c1:w.cell? ⟨B1,0,none⟩=some (.pointer (some ⟨r,0,none⟩)):=by simp only [World.cell?,b1];rfl
 have hB2:B2<w.heap.size:=(Array.getElem?_eq_some_iff.1 b2).1;have hB1:B1<w.heap.size:=(Array.getElem?_eq_some_iff.1 b1).1
 go_enter Tryz.func55,Tryz.ntmps55
 go_wp2_with fail
 refine ce.mono ?_;clear ce;rintro e w1 ⟨hk1,hpost⟩;rcases res with a | ⟨x,us⟩
 ·obtain rfl:=hpost
  obtain rfl:R=.error a:=by rw [←hres];rfl
  exact ⟨rfl,⟨hk1.os,hk1.tape,hk1.output,hk1.size,fun k hk hr _=>hk1.block k hk hr⟩,rfl⟩
 ·obtain ⟨v,o1,cap1,rfl,hx,hrd⟩:=hpost
  obtain ⟨s0,s1,s2,d0,d1,d2,rfl⟩:=hx.agg;have hE1:=vI f _ _ _ _ _ hp hE;obtain ⟨t1,ts1,rfl⟩:=hE1.cons;have p1:=(hk1.block _ hB1 h1).trans b1;have p2:=(hk1.block _ hB2 h2).trans b2;obtain ⟨q0,q1,qf⟩:=ZL p2;obtain ⟨w2,hw2⟩:∃w2,w2=XJ w1 B2 (.slice s0 s1 s2) (.slice d0 d1 d2):=⟨_,rfl⟩;have hkeep:∀k,k≠B2→w2.heap[k]?=w1.heap[k]?:=fun k hk=>by rw [hw2];exact Vz _ _ _ _ hk
  have hrd2:zg r g o1 cap1 (t1::ts1) w2:=hrd.keep (hkeep r (fun e=>h2 e.symm)) (hkeep g (fun e=>h3 e.symm))
  have hs2:w1.heap.size≤w2.heap.size:=by rw [hw2];simp
  have hx2:Yx w.heap.size w2 x (.agg #[.slice s0 s1 s2,.slice d0 d1 d2]):=Yx.kept hx hs2 fun k hB _=>hkeep k (by omega)
  have pB:w2.heap[B2]?=some (.cells #[.slice s0 s1 s2,.slice d0 d1 d2] 25 (0,0)):=by rw [hw2];exact zaQ p2 _ _
  have d1':w2.cell? ⟨B1,0,none⟩=some (.pointer (some ⟨r,0,none⟩)):=by
   have p3:=(hkeep B1 h4).trans p1;simp only [World.cell?,p3];rfl
  have HK2:Hid (YU r B2 w w2):=⟨by rw [hw2];exact hk1.os,by rw [hw2];exact hk1.tape,by rw [hw2];exact hk1.output,Nat.le_trans hk1.size hs2,fun k hk hr hb=>(hkeep k hb).trans (hk1.block k hk hr)⟩
  have ce:=zeo r g o1 cap1 t1 ts1 w2 hrd2;have HX2:Hid (Yx w.heap.size w2 x (.agg #[.slice s0 s1 s2,.slice d0 d1 d2])):=hx2;have HPB:Hid (w2.heap[B2]?=some (.cells #[.slice s0 s1 s2,.slice d0 d1 d2] 25 (0,0))):=pB;have hw2':=hw2.symm;have hsz:=hk1.size;have hB2':B2<w2.heap.size:=(Array.getElem?_eq_some_iff.1 pB).1;clear hx2 pB hrd2 hkeep hx hrd p1 p2 hk1 hw2
  by_cases hk:t1.k=0
  ·simp only [if_pos hk] at ce
   obtain rfl:R=.ok x:=by rw [←hres];unfold Yb;simp only [zC,if_pos hk]
   go_wp2_with fail
   refine ce.mono ?_;clear ce;rintro e w3 ⟨hk3,rfl⟩
   have hP:VA r B2 w (.ok x) (.returned (.tuple #[])) w3:=by
    refine ⟨⟨hk3.os.trans HK2.out.os,hk3.tape.trans HK2.out.tape,hk3.output.trans HK2.out.output,Nat.le_trans HK2.out.size hk3.size,fun k hk hr hb=>(hk3.block k (Nat.lt_of_lt_of_le hk HK2.out.size) hr).trans (HK2.out.block k hk hr hb)⟩,rfl,s0,s1,s2,d0,d1,d2,(hk3.block _ hB2' h2).trans HPB.out,?_⟩
    exact Yx.kept HX2.out hk3.size fun k hB hlt=>hk3.block k hlt (by have:=h.lt.1;omega)
   have HP:Hid (VA r B2 w (.ok x) (.returned (.tuple #[])) w3):=hP;clear hP hk3 HK2 HX2 HPB;go_wp2
   exact bodyPost_ret (v:=.tuple #[]) (by simp [results,Tryz.results55,go_sem]) rfl HP.out
  ·simp only [if_neg hk] at ce
   obtain rfl:R=.error t1.at0:=by rw [←hres];unfold Yb;simp only [zC,if_neg hk]
   go_wp2_with fail
   refine ce.mono ?_;clear ce;rintro e w3 ⟨hk3,rfl⟩;exact ⟨rfl,⟨hk3.os.trans HK2.out.os,hk3.tape.trans HK2.out.tape,hk3.output.trans HK2.out.output,Nat.le_trans HK2.out.size hk3.size,fun k hk hr hb=>(hk3.block k (Nat.lt_of_lt_of_le hk HK2.out.size) hr).trans (HK2.out.block k hk hr hb)⟩,rfl⟩
end Go.Proofs.YtdgpapchkpnijaaGreatDoor
