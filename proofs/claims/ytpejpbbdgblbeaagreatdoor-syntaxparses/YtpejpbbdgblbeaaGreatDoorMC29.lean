import Derived.Test.YtpejpbbdgblbeaaGreatDoorMC17
import Derived.Test.YtpejpbbdgblbeaaGreatDoorSProg
import Derived.Test.YtpejpbbdgblbeaaGreatDoorShelf
import Derived.Test.YtpejpbbdgblbeaaGreatDoorMC20
import Derived.Test.YtpejpbbdgblbeaaGreatDoorMC15
namespace Go.Proofs.YtpejpbbdgblbeaaGreatDoor
open Go.RowKit Go.Shelf
set_option maxHeartbeats 16000000
set_option maxRecDepth 100000
theorem zcV (c:UInt8) (n:Nat) (w:World) (hn:n≤1099511627776):Calls Tryz.prog 135 #[.string ⟨#[c]⟩,.int .i64 n] w fun e w'=>e=.returned (.string (za (List.replicate n c)))∧Below w.heap.size w w':=by
 have h:=Tryz.strings_Repeat ⟨#[c]⟩ n w (by omega) (by show 1*n≤_;omega)
 refine h.mono fun e w' h9=>⟨?_,h9.2⟩
 rw [h9.1];have e:=Lib.repeatL_replicate c 1 n;rw [show List.replicate 1 c=[c] from rfl,Nat.mul_one] at e
 show Ending.returned (.string ⟨(Lib.repeatL [c] n).toArray⟩)=_
 rw [e]
theorem uA (r g o cap:Nat) (ts:List Tk) (w:World) (hE:zj ts) (h:zh r g o cap ts w):Calls Tryz.prog 99 #[.pointer (some ⟨r,0,none⟩)] w (zbo r g w (yF 0 ts)) :=
 zhz r g o cap ts w h hE hE.names zcV
theorem zey (r g o cap:Nat) (ts:List Tk) (w:World) (hE:zj ts) (h:zh r g o cap ts w):Calls Tryz.prog 97 #[.pointer (some ⟨r,0,none⟩)] w (zbp r g w (YE ts)) :=
 zgI r g o cap ts w h hE fun us w1 o1 cap1 _ hE1 h1=>uA r g o1 cap1 us w1 hE1 h1
theorem qz (r g o cap F:Nat) (ts:List Tk) (w:World) (res:PR (List Pm)) (hp:Zm F [] ts=some res) (hE:zj ts) (h:zh r g o cap ts w) :
  Calls Tryz.prog 96 #[.pointer (some ⟨r,0,none⟩),.func (.func 97) #[.pointer (some ⟨r,0,none⟩)] #[]] w (zbq r g w res) :=
 zfB r g o cap F ts w res h hE (x8 hp) fun w1 o1 cap1 ts1 hE1 h1 _=>zey r g o1 cap1 ts1 w1 hE1 h1
theorem zfV (r g o cap F:Nat) (ts:List Tk) (w:World) (R:PR (List Pm)) (hp:Y9 F ts=some R) (hE:zj ts) (h:zh r g o cap ts w) :
  Calls Tryz.prog 98 #[.pointer (some ⟨r,0,none⟩),.func (.func 97) #[.pointer (some ⟨r,0,none⟩)] #[]] w (zdF r g w R):=by
 obtain ⟨t,us,rfl⟩:=hE.cons
 unfold Y9 Zf at hp
 simp only [zI,List.tail_cons] at hp
 by_cases h1:zn t [40]=true
 ·have hE1:=hE.tail (zl h1)
  simp only [if_pos h1,zq] at hp
  by_cases h2:zn (zx us) [41]=true
  ·simp only [if_pos h2,Option.some.injEq] at hp
   have e:R=Y8 t us (.error 0):=by unfold Y8;rw [if_pos h1,if_pos h2];exact hp.symm
   rw [e];exact vT r g o cap _ t us w (.error 0) h hE (fun _ _ e=>by cases e) fun _ h9=>absurd h2 (by rw [h9];decide)
  ·simp only [if_neg h2] at hp
   cases h3:Zm F [] us with
   | none=>rw [h3] at hp;cases hp
   | some r3 =>
    rw [h3] at hp
    have e:R=Y8 t us r3:=by
     unfold Y8
     rw [if_pos h1,if_neg h2];rcases r3 with a | ⟨l,us3⟩
     ·simp only [Option.some.injEq] at hp
      exact hp.symm
     ·simp only at hp ⊢
      by_cases h4:zn (zx us3) [41]=true
      ·simp only [if_pos h4,Option.some.injEq] at hp ⊢
       exact hp.symm
      ·simp only [if_neg h4,Option.some.injEq] at hp ⊢
       exact hp.symm
    rw [e];exact vT r g o cap _ t us w r3 h hE (fun l us3 e=>by subst e;exact x7 h3 hE1) fun _ _ w1 o1 cap1 hR hK=>qz r g o1 cap1 F us w1 r3 h3 hE1 hR
 ·simp only [if_neg h1,zq,Option.some.injEq] at hp
  have e:R=Y8 t us (.error 0):=by unfold Y8;rw [if_neg h1];exact hp.symm
  rw [e];exact vT r g o cap _ t us w (.error 0) h hE (fun _ _ e=>by cases e) fun h9=>absurd h9 h1
theorem zbL (r g o cap F:Nat) (hrl:r≠1) (ts:List Tk) (w:World) (res:PR Pg) (hp:ZR F [] [] ts=some res) (hE:zj ts) (h:zh r g o cap ts w) (hl:ZS w) :
  Calls Tryz.prog 22 #[.pointer (some ⟨r,0,none⟩)] w (zfU r g w res) :=
 zex r g o cap F ts w res h hE hp
  (fun w1 o1 cap1 ts1 r1 line hb hE1 hR _=>zaE r g o1 cap1 line F ts1 w1 r1 hR hE1 hb fun w2 o2 cap2 ts2 r2 hb2 hE2 hR2 _=>qz r g o2 cap2 F ts2 w2 r2 hb2 hE2 hR2)
  (fun w1 o1 cap1 ts1 r1 line hb hE1 hR hK=>zhV r g o1 cap1 line F ts1 w1 r1 hR hE1 hb (fun w2 o2 cap2 ts2 r2 hb2 hE2 hR2 _=>zfV r g o2 cap2 F ts2 w2 r2 hb2 hE2 hR2) (fun w2 o2 cap2 ts2 hE2 hR2 _=>uA r g o2 cap2 ts2 w2 hE2 hR2) (fun w2 o2 cap2 ts2 r2 hb2 hE2 hR2 hK2=>(zhU r g hrl F).block w2 o2 cap2 ts2 r2 hb2 hE2 hR2 (hl.kept (hK.trans hK2) hrl)))
theorem z7 {s:List UInt8} {ts us:List Tk} {y:Unit} (h:Zf s ts=some (.ok (y,us))):us.length+1=ts.length:=by
 unfold Zf at h
 split at h
 ·rename_i hi
  simp only [Option.some.injEq,Except.ok.injEq,Prod.mk.injEq] at h;rw [←h.2];exact Zq hi
 ·simp at h
theorem yU {s:List UInt8} {ts us:List Tk} (h:Yg ts=some (.ok (s,us))):us.length+1=ts.length:=by
 unfold Yg at h
 split at h
 ·rename_i hi
  simp only [Option.some.injEq,Except.ok.injEq,Prod.mk.injEq] at h;rw [←h.2];exact yV (by omega)
 ·simp at h
theorem zt {α:Type} {x y:α} {ts us:List Tk} (h:(some (.ok (x,ts)):Option (PR α))=some (.ok (y,us))):x=y∧ts=us:=by
 simpa using h
theorem Uw (f:Nat) :
  (∀least ts x us,zk f least ts=some (.ok (x,us))→z6 x+us.length≤ts.length)∧(∀least e ts x us T,Z5 f least e ts=some (.ok (x,us))→z6 e+ts.length≤T→z6 x+us.length≤T) ∧
  (∀ts x us,ZP f ts=some (.ok (x,us))→z6 x+us.length≤ts.length)∧(∀e ts x us T,zN f e ts=some (.ok (x,us))→z6 e+ts.length≤T→z6 x+us.length≤T)∧(∀ts x us,Za f ts=some (.ok (x,us))→z6 x+us.length≤ts.length) ∧
  (∀pre ts l us T,Yh f pre ts=some (.ok (l,us))→depthL pre+ts.length≤T→depthL l+us.length≤T)∧(∀ts l us,zR f ts=some (.ok (l,us))→depthL l+us.length+1≤ts.length):=by
 induction f with
 | zero=>refine ⟨?_,?_,?_,?_,?_,?_,?_⟩ <;> intros <;> simp_all [zk,Z5,ZP,zN,Za,Yh,zR]
 | succ f ih =>
  obtain ⟨i1,i2,i3,i4,i5,i6,i7⟩:=ih;refine ⟨fun least ts x us h=>?_,fun least e ts x us T h hT=>?_,fun ts x us h=>?_,fun e ts x us T h hT=>?_,fun ts x us h=>?_,fun pre ts l us T h hT=>?_,fun ts l us h=>?_⟩
  ·rw [zk] at h
   split at h
   ·exact i3 _ _ _ h
   ·obtain ⟨y,vs,h1,h2⟩:=zb h
    exact i2 _ _ _ _ _ _ h2 (i1 _ _ _ _ h1)
  ·rw [Z5] at h
   split at h
   ·rename_i hc
    obtain ⟨y,vs,h1,h2⟩:=zb h;have a:=i1 _ _ _ _ h1;have b:=yV (ts:=ts) (by omega)
    have d:1≤z6 y:=by cases y;simp [z6]
    refine i2 _ _ _ _ _ _ h2 ?_;simp only [z6,depthL];omega
   ·obtain ⟨rfl,rfl⟩:=zt h;exact hT
  ·rw [ZP] at h
   split at h
   ·rename_i hc
    obtain ⟨y,vs,h1,h2⟩:=zb h;have a:=i3 _ _ _ h1;have b:=yV (ts:=ts) (by omega)
    obtain ⟨rfl,rfl⟩:=zt h2;simp only [z6,depthL];omega
   ·obtain ⟨y,vs,h1,h2⟩:=zb h
    exact i4 _ _ _ _ _ h2 (i5 _ _ _ h1)
  ·rw [zN] at h
   split at h
   ·rename_i hc
    obtain ⟨y,vs,h1,h2⟩:=zb h;obtain ⟨z,vs',h3,h4⟩:=zb h2;have a:=i1 _ _ _ _ h1;have b:=Zq hc;have c:=z7 h3;have d:1≤z6 y:=by cases y;simp [z6]
    refine i4 _ _ _ _ _ h4 ?_;simp only [z6,depthL];omega
   ·split at h
    ·rename_i hc
     obtain ⟨y,vs,h1,h2⟩:=zb h;have b:=Zq hc;have c:=yU h1;refine i4 _ _ _ _ _ h2 ?_;simp only [z6,depthL];omega
    ·obtain ⟨rfl,rfl⟩:=zt h;exact hT
  ·rw [Za] at h
   split at h
   ·rename_i hc
    have b:=yV (ts:=ts) (by omega)
    obtain ⟨rfl,rfl⟩:=zt h;simp only [z6,depthL];omega
   ·split at h
    ·rename_i hc
     have b:=yV (ts:=ts) (by omega)
     obtain ⟨rfl,rfl⟩:=zt h;simp only [z6,depthL];omega
    ·split at h
     ·rename_i hc
      have b:=yV (ts:=ts) (by omega)
      split at h
      ·obtain ⟨y,vs,h1,h2⟩:=zb h
       have a:=i7 _ _ _ h1;obtain ⟨rfl,rfl⟩:=zt h2;simp only [z6];omega
      ·obtain ⟨rfl,rfl⟩:=zt h
       simp only [z6,depthL];omega
     ·split at h
      ·rename_i hc
       have b:=Zq hc;obtain ⟨rfl,rfl⟩:=zt h;simp only [z6,depthL];omega
      ·split at h
       ·rename_i hc
        have b:=Zq hc;obtain ⟨rfl,rfl⟩:=zt h;simp only [z6,depthL];omega
       ·split at h
        ·rename_i hc
         have b:=Zq hc;obtain ⟨s,vs,h1,h2⟩:=zb h;obtain ⟨y,vs',h3,h4⟩:=zb h2;have a:=i7 _ _ _ h3;have c:=yU h1;obtain ⟨rfl,rfl⟩:=zt h4;simp only [z6];omega
        ·split at h
         ·rename_i hc
          have b:=Zq hc;obtain ⟨y,vs,h1,h2⟩:=zb h;obtain ⟨z,vs',h3,h4⟩:=zb h2;have a:=i6 _ _ _ _ _ h1 (Nat.le_refl _);have c:=z7 h3;obtain ⟨rfl,rfl⟩:=zt h4;simp only [z6,depthL] at a ⊢;omega
         ·obtain ⟨z,vs,h1,h2⟩:=zb h
          obtain ⟨y,vs',h3,h4⟩:=zb h2;obtain ⟨z',vs'',h5,h6⟩:=zb h4;have a:=i1 _ _ _ _ h3;have b:=z7 h1;have c:=z7 h5;obtain ⟨rfl,rfl⟩:=zt h6;omega
  ·rw [Yh] at h
   obtain ⟨y,vs,h1,h2⟩:=zb h;have a:=i1 _ _ _ _ h1
   split at h2
   ·rename_i hc
    have b:=Zq hc;refine i6 _ _ _ _ _ h2 ?_;rw [xI];simp only [depthL];omega
   ·obtain ⟨rfl,rfl⟩:=zt h2
    rw [xI];simp only [depthL];omega
  ·rw [zR] at h
   obtain ⟨z,vs,h1,h2⟩:=zb h;have b:=z7 h1
   split at h2
   ·rename_i hc
    have c:=Zq hc;obtain ⟨rfl,rfl⟩:=zt h2;simp only [depthL];omega
   ·obtain ⟨y,vs',h3,h4⟩:=zb h2
    obtain ⟨z',vs'',h5,h6⟩:=zb h4;have a:=i6 _ _ _ _ _ h3 (Nat.le_refl _);have c:=z7 h5;obtain ⟨rfl,rfl⟩:=zt h6;simp only [depthL] at a;omega
theorem qA:∀(f:Nat) (m:List UInt8) (a:Nat) (r:List UInt8),(Ze f m a r).k≠1
 | 0,_,_,_=>by simp [Ze]
 | _+1,_,_,[]=>by simp [Ze]
 | f+1,m,a,x::r=>by
  unfold Ze
  split
  ·simp
  ·split
   ·simp
   ·split
    ·simp
    ·exact qA f _ _ _
theorem zez (l:List UInt8) (h:(Zc l).k=1):(Zc l).s.length≤20:=by
 unfold Zc at h ⊢
 cases l with
 | nil=>simp at h
 | cons x r =>
  simp only at h ⊢
  split at h
  ·rename_i hc
   rw [if_pos hc]
   unfold yH at h ⊢
   split at h
   ·simp at h
   ·rename_i h1
    rw [if_neg h1]
    split at h
    ·simp at h
    ·rename_i h2
     rw [if_neg h2];simp only;omega
  ·rename_i hc
   rw [if_neg hc]
   split at h
   ·unfold xA at h
    split at h <;> simp at h
   ·rename_i hd
    rw [if_neg hd]
    split at h
    ·exact absurd h (qA _ _ _ _)
    ·unfold Yw at h
     split at h <;> simp at h
theorem zcW (l:List UInt8) (line a:Nat):NmT (tkT l line a):=fun h=>by
 have:=zez _ (show (Zc (l.drop (a+Yn (l.drop a)))).k=1 from h)
 have e:(tkT l line a).s=(Zc (l.drop (a+Yn (l.drop a)))).s:=rfl;rw [e];omega
theorem zcX (l:List UInt8):∀(f line a:Nat),a≤l.length→l.length<a+f→(scanS l f line a).2.2=0→zj (scanS l f line a).1:=by
 intro f
 induction f with
 | zero=>intro line a ha hf;omega
 | succ f ih =>
  intro line a ha hf h;rw [scanS] at h ⊢
  split at h
  ·rename_i he;exact absurd h he
  ·rename_i he
   rw [if_neg he];have he0:(zV l a).e=0:=by simpa using he
   split at h
   ·rename_i hk
    rw [if_pos hk];exact hk
   ·rename_i hk
    rw [if_neg hk]
    split at h
    ·rename_i h2;exact absurd h h2
    ·rename_i h2
     rw [if_neg h2];have hm:=xB ha he0 hk;have hr:=ih (yr l line a) (zM l a+(zV l a).sz) hm.2 (by omega) (by simpa using h2)
     obtain ⟨t,ts,hts⟩:=hr.cons;simp only [hts] at hr ⊢;exact ⟨hk,zcW l line a,hr⟩
theorem V1 (l:List UInt8) (h:(zC l).2.2=0):zj (zC l).1:=by
 unfold zC at h ⊢
 split at h
 ·simp at h
 ·rename_i hl
  rw [if_neg hl];exact zcX l _ _ _ (Nat.zero_le _) (by omega) h
theorem zcY (f:Nat) :
  (∀ts x us,ZQ f ts=some (.ok (x,us))→ZW x+us.length≤ts.length)∧(∀ts l us,zU f ts=some (.ok (l,us))→depthSs l+us.length+1≤ts.length)∧(∀pre ts l us T,ZH f pre ts=some (.ok (l,us))→depthSs pre+ts.length≤T→depthSs l+us.length≤T):=by
 induction f with
 | zero=>refine ⟨?_,?_,?_⟩ <;> intros <;> simp_all [ZQ,zU,ZH]
 | succ f ih =>
  obtain ⟨i1,i2,i3⟩:=ih;have b1:=(Uw f).1;refine ⟨fun ts x us h=>?_,fun ts l us h=>?_,fun pre ts l us T h hT=>?_⟩
  ·rw [ZQ] at h
   split at h
   ·rename_i hc
    obtain ⟨_,_,h1,h⟩:=zb h;obtain ⟨_,_,h2,h⟩:=zb h;obtain ⟨_,_,h3,h⟩:=zb h;obtain ⟨_,_,h4,h⟩:=zb h;have l0:=Zq hc;have l1:=yU h1;have l2:=z7 h2;have l3:=b1 _ _ _ _ h3;have l4:=z7 h4;obtain ⟨rfl,rfl⟩:=zt h;simp only [ZW,depthSs,depthL];omega
   ·split at h
    ·rename_i hc
     obtain ⟨_,_,h1,h⟩:=zb h;obtain ⟨_,_,h2,h⟩:=zb h;have l0:=Zq hc;have l1:=b1 _ _ _ _ h1;have l2:=i2 _ _ _ h2
     split at h
     ·rename_i hc
      obtain ⟨_,_,h3,h⟩:=zb h;have l3:=Zq hc;have l4:=i2 _ _ _ h3;obtain ⟨rfl,rfl⟩:=zt h;simp only [ZW,depthL];omega
     ·obtain ⟨rfl,rfl⟩:=zt h
      simp only [ZW,depthSs,depthL];omega
    ·split at h
     ·rename_i hc
      obtain ⟨_,_,h1,h⟩:=zb h;obtain ⟨_,_,h2,h⟩:=zb h;have l0:=Zq hc;have l1:=b1 _ _ _ _ h1;have l2:=i2 _ _ _ h2;obtain ⟨rfl,rfl⟩:=zt h;simp only [ZW,depthSs,depthL];omega
     ·split at h
      ·rename_i hc
       have l0:=Zq hc
       split at h
       ·rename_i hc2
        have l1:=Zq hc2;obtain ⟨rfl,rfl⟩:=zt h;simp only [ZW,depthSs,depthL];omega
       ·obtain ⟨_,_,h1,h⟩:=zb h
        obtain ⟨_,_,h2,h⟩:=zb h;have l1:=b1 _ _ _ _ h1;have l2:=z7 h2;obtain ⟨rfl,rfl⟩:=zt h;simp only [ZW,depthSs,depthL];omega
      ·obtain ⟨_,_,h1,h⟩:=zb h
       have l1:=b1 _ _ _ _ h1
       split at h
       ·rename_i hc
        have l2:=Zq hc
        split at h
        ·obtain ⟨_,_,h2,h⟩:=zb h
         obtain ⟨_,_,h3,h⟩:=zb h;have l3:=b1 _ _ _ _ h2;have l4:=z7 h3;obtain ⟨rfl,rfl⟩:=zt h;simp only [ZW,depthSs,depthL];omega
        ·simp at h
       ·obtain ⟨_,_,h2,h⟩:=zb h
        have l2:=z7 h2;obtain ⟨rfl,rfl⟩:=zt h;simp only [ZW,depthSs,depthL];omega
  ·rw [zU] at h
   obtain ⟨_,us1,h1,h⟩:=zb h;have l1:=z7 h1;have l2:=i3 _ _ _ _ us1.length h (by simp [depthSs])
   omega
  ·rw [ZH] at h
   split at h
   ·rename_i hc
    have l0:=Zq hc;obtain ⟨rfl,rfl⟩:=zt h;omega
   ·obtain ⟨y,us1,h1,h⟩:=zb h
    have l1:=i1 _ _ _ h1;refine i3 _ _ _ _ T h ?_;rw [Xr];simp only [depthSs];omega
theorem zbM {f:Nat} {ts us:List Tk} {l:List Pm} (h:Zm f [] ts=some (.ok (l,us))) (hE:zj ts):us.length<ts.length:=by
 have hpos:=hE.pos;obtain ⟨f',r',h1,h2⟩:=vE ts.length ts (Nat.le_refl _) hE []
 have a:∀k,Zm (f+k) [] ts=some (.ok (l,us)):=by
  intro k
  induction k with
  | zero=>exact h
  | succ k ih=>exact x8 ih
 have b:=h1 f;have a:=a f';rw [Nat.add_comm] at a;have e:=Option.some.inj (a.symm.trans b)
 have:=(h2 l us e.symm).1
 omega
theorem Vj {f:Nat} {ts us:List Tk} {l:List Pm} (h:Y9 f ts=some (.ok (l,us))) (hE:zj ts):us.length≤ts.length:=by
 unfold Y9 at h
 obtain ⟨_,us1,h1,h⟩:=zb h;have l1:=z7 h1;have hE1:=Zt h1 hE
 split at h
 ·rename_i hc
  have l2:=Zq hc;obtain ⟨rfl,rfl⟩:=zt h;omega
 ·obtain ⟨_,us2,h2,h⟩:=zb h
  obtain ⟨_,us3,h3,h⟩:=zb h;have l2:=zbM h2 hE1;have l3:=z7 h3;obtain ⟨rfl,rfl⟩:=zt h;omega
theorem zbN {ts us:List Tk} {s:List UInt8} (h:vY ts=some (.ok (s,us))) (hE:zj ts):us.length≤ts.length:=by
 unfold vY at h
 split at h
 ·rename_i hc
  have l1:=Zq hc
  have:=(Y0 _ _ _ _ (Option.some.inj h) (zT hE hc)).2
  omega
 ·obtain ⟨rfl,rfl⟩:=zt h
  omega
theorem qB {f line:Nat} {ts us:List Tk} {x:Fc} (h:yX f line ts=some (.ok (x,us))) (hE:zj ts):depthSs x.body+us.length≤ts.length:=by
 unfold yX at h
 obtain ⟨_,us1,h1,h⟩:=zb h;obtain ⟨_,us2,h2,h⟩:=zb h;obtain ⟨_,us3,h3,h⟩:=zb h;obtain ⟨b,us4,h4,h⟩:=zb h;have hE1:=yM h1 hE;have hE2:=Xp h2 hE1;have l1:=yU h1;have l2:=Vj h2 hE1;have l3:=zbN h3 hE2;have l4:=(zcY f).2.1 _ _ _ h4;obtain ⟨rfl,rfl⟩:=zt h;simp only;omega
theorem vG (T:Nat):∀(f:Nat) (rs:List Rc) (fs:List Fc) (ts us:List Tk) (p:Pg),ZR f rs fs ts=some (.ok (p,us))→zj ts→depthFs fs+ts.length≤T→depthFs p.funs+us.length≤T
 | 0,_,_,_,_,_,h,_,_=>by simp [ZR] at h
 | f+1,rs,fs,ts,us,p,h,hE,hT=>by
  rw [ZR] at h
  split at h
  ·obtain ⟨rfl,rfl⟩:=zt h
   exact hT
  ·split at h
   ·rename_i hc
    have l0:=Zq hc;have hE0:=zT hE hc;obtain ⟨x,us1,h1,h⟩:=zb h;have l1:=XE h1 hE0;exact vG T f _ _ _ _ _ h (xr h1 hE0) (by omega)
   ·split at h
    ·rename_i hc
     have l0:=Zq hc;have hE0:=zT hE hc;obtain ⟨x,us1,h1,h⟩:=zb h;have l1:=qB h1 hE0;refine vG T f _ _ _ _ _ h (Xq h1 hE0) ?_;rw [Xs];simp only [depthFs];omega
    ·simp at h
abbrev YH (B:Nat) (w:World) (p:Pg) (v:Value):Prop:=xy (fun k=>B≤k) w p v
theorem YH.kept {B:Nat} {w w':World} {p:Pg} {v:Value} (h:YH B w p v) (hs:w.heap.size≤w'.heap.size) (hb:∀k,B≤k→k<w.heap.size→w'.heap[k]?=w.heap[k]?):YH B w' p v:=xy.kept h hs hb
theorem YH.mono {B B':Nat} {w:World} {p:Pg} {v:Value} (h:YH B w p v) (hb:B'≤B):YH B' w p v:=xy.wide h fun k hk=>by omega
abbrev xe:Pg:=⟨[],[]⟩
theorem zbO (B:Nat) (w:World):YH B w xe (.agg #[.slice none 0 0,.slice none 0 0]):=(yg.nil B w).pg
abbrev vh (w:World) (N:Nat) (a b:Value):World:=(w.setCell ⟨N,0,none⟩ a).setCell ⟨N,1,none⟩ b
theorem Yi {w:World} {N:Nat} {x0 x1:Value} {ty:TypeId} (h:w.heap[N]?=some (.cells #[x0,x1] ty (0,0))) (a b:Value) :
  (vh w N a b).cell? ⟨N,0,none⟩=some a∧(vh w N a b).cell? ⟨N,1,none⟩=some b:=by
 obtain ⟨q0,q1,-⟩:=zZ h;exact ⟨(World.cell?_setCell_other _ _ _ _ (by simp)).trans (World.cell?_setCell_same _ _ _ q0),World.cell?_setCell_same _ _ _ ((World.cell?_setCell_other _ _ _ _ (by simp)).trans q1)⟩
theorem Vk (w:World) (N:Nat) (a b:Value) {k:Nat} (hk:k≠N):(vh w N a b).heap[k]?=w.heap[k]?:=by
 rw [Below.heap_setCell _ _ _ _ (by simpa using hk),Below.heap_setCell _ _ _ _ (by simpa using hk)]
theorem zcZ {w:World} {N:Nat} {x0 x1:Value} {ty:TypeId} (h:w.heap[N]?=some (.cells #[x0,x1] ty (0,0))) (a b:Value):(vh w N a b).heap[N]?=some (.cells #[a,b] ty (0,0)) :=
 zm b (zm a h)
theorem V2:∀(f:Nat) (rs:List Rc) (fs:List Fc) (ts us:List Tk) (p:Pg),ZR f rs fs ts=some (.ok (p,us))→zj ts→zj us
 | 0,_,_,_,_,_,h,_=>by simp [ZR] at h
 | f+1,rs,fs,ts,us,p,h,hE=>by
  rw [ZR] at h
  split at h
  ·obtain ⟨rfl,rfl⟩:=zt h
   exact hE
  ·split at h
   ·rename_i hc
    obtain ⟨x,us1,h1,h⟩:=zb h;exact V2 f _ _ _ _ _ h (xr h1 (zT hE hc))
   ·split at h
    ·rename_i hc
     obtain ⟨x,us1,h1,h⟩:=zb h;exact V2 f _ _ _ _ _ h (Xq h1 (zT hE hc))
    ·simp at h
def Yj (res:PR Pg):Except Nat Pg :=
 match res with
 | .error a=>.error a
 | .ok (x,us)=>if (zx us).k=0 then .ok x else .error (zx us).at0
def Uc (r B2:Nat) (w:World) (res:Except Nat Pg) (e:Ending) (w':World):Prop :=
 xW r B2 w w'∧match res with
  | .error a=>e=Z2 a
  | .ok x=>e=.returned (.tuple #[])∧∃(s0:Option Addr) (s1 s2:Nat) (d0:Option Addr) (d1 d2:Nat),w'.heap[B2]?=some (.cells #[.slice s0 s1 s2,.slice d0 d1 d2] 25 (0,0))∧YH w.heap.size w' x (.agg #[.slice s0 s1 s2,.slice d0 d1 d2])
theorem zgZ (r g o cap B0 B1 B2 f ty0 ty1:Nat) (ts:List Tk) (w:World) (res:PR Pg) (h:zh r g o cap ts w) (hE:zj ts) (hl:ZS w) (hrl:r≠1) (hp:ZR f [] [] ts=some res)
  (b0:w.heap[B0]?=some (.cells #[.func (.func 22) #[] #[]] ty0 (0,0))) (b1:w.heap[B1]?=some (.cells #[.pointer (some ⟨r,0,none⟩)] ty1 (0,0))) (b2:w.heap[B2]?=some xg) (h1:B1≠r) (h2:B2≠r) (h3:B2≠g) (h4:B1≠B2) :
  Calls Tryz.prog 49 #[.pointer (some ⟨B0,0,none⟩),.pointer (some ⟨B1,0,none⟩),.pointer (some ⟨B2,0,none⟩)] w (Uc r B2 w (Yj res)):=by
 generalize hres:Yj res=R;obtain ⟨t0,ts0,rfl⟩:=hE.cons;have ce:=zbL r g o cap f hrl _ w res hp hE h hl;have c0:w.cell? ⟨B0,0,none⟩=some (.func (.func 22) #[] #[]):=by simp only [World.cell?,b0];rfl
 have c1:w.cell? ⟨B1,0,none⟩=some (.pointer (some ⟨r,0,none⟩)):=by simp only [World.cell?,b1];rfl
 have hB2:B2<w.heap.size:=(Array.getElem?_eq_some_iff.1 b2).1;have hB1:B1<w.heap.size:=(Array.getElem?_eq_some_iff.1 b1).1
 go_enter Tryz.func49,Tryz.ntmps49
 go_wp2_with fail
 refine ce.mono ?_;clear ce;rintro e w1 ⟨hk1,hpost⟩;rcases res with a | ⟨x,us⟩
 ·obtain rfl:=hpost
  obtain rfl:R=.error a:=by rw [←hres];rfl
  exact ⟨rfl,⟨hk1.os,hk1.tape,hk1.output,hk1.size,fun k hk hr _=>hk1.block k hk hr⟩,rfl⟩
 ·obtain ⟨v,o1,cap1,rfl,hx,hrd⟩:=hpost
  obtain ⟨s0,s1,s2,d0,d1,d2,rfl⟩:=hx.agg;have hE1:=V2 f _ _ _ _ _ hp hE;obtain ⟨t1,ts1,rfl⟩:=hE1.cons;have p1:=(hk1.block _ hB1 h1).trans b1;have p2:=(hk1.block _ hB2 h2).trans b2;obtain ⟨q0,q1,qf⟩:=zZ p2;obtain ⟨w2,hw2⟩:∃w2,w2=vh w1 B2 (.slice s0 s1 s2) (.slice d0 d1 d2):=⟨_,rfl⟩;have hkeep:∀k,k≠B2→w2.heap[k]?=w1.heap[k]?:=fun k hk=>by rw [hw2];exact Vk _ _ _ _ hk
  have hrd2:zh r g o1 cap1 (t1::ts1) w2:=hrd.keep (hkeep r (fun e=>h2 e.symm)) (hkeep g (fun e=>h3 e.symm))
  have hs2:w1.heap.size≤w2.heap.size:=by rw [hw2];simp
  have hx2:YH w.heap.size w2 x (.agg #[.slice s0 s1 s2,.slice d0 d1 d2]):=YH.kept hx hs2 fun k hB _=>hkeep k (by omega)
  have pB:w2.heap[B2]?=some (.cells #[.slice s0 s1 s2,.slice d0 d1 d2] 25 (0,0)):=by rw [hw2];exact zcZ p2 _ _
  have d1':w2.cell? ⟨B1,0,none⟩=some (.pointer (some ⟨r,0,none⟩)):=by
   have p3:=(hkeep B1 h4).trans p1;simp only [World.cell?,p3];rfl
  have HK2:Hid (xW r B2 w w2):=⟨by rw [hw2];exact hk1.os,by rw [hw2];exact hk1.tape,by rw [hw2];exact hk1.output,Nat.le_trans hk1.size hs2,fun k hk hr hb=>(hkeep k hb).trans (hk1.block k hk hr)⟩
  have ce:=zhf r g o1 cap1 t1 ts1 w2 hrd2;have HX2:Hid (YH w.heap.size w2 x (.agg #[.slice s0 s1 s2,.slice d0 d1 d2])):=hx2;have HPB:Hid (w2.heap[B2]?=some (.cells #[.slice s0 s1 s2,.slice d0 d1 d2] 25 (0,0))):=pB;have hw2':=hw2.symm;have hsz:=hk1.size;have hB2':B2<w2.heap.size:=(Array.getElem?_eq_some_iff.1 pB).1;clear hx2 pB hrd2 hkeep hx hrd p1 p2 hk1 hw2
  by_cases hk:t1.k=0
  ·simp only [if_pos hk] at ce
   obtain rfl:R=.ok x:=by rw [←hres];unfold Yj;simp only [zI,if_pos hk]
   go_wp2_with fail
   refine ce.mono ?_;clear ce;rintro e w3 ⟨hk3,rfl⟩
   have hP:Uc r B2 w (.ok x) (.returned (.tuple #[])) w3:=by
    refine ⟨⟨hk3.os.trans HK2.out.os,hk3.tape.trans HK2.out.tape,hk3.output.trans HK2.out.output,Nat.le_trans HK2.out.size hk3.size,fun k hk hr hb=>(hk3.block k (Nat.lt_of_lt_of_le hk HK2.out.size) hr).trans (HK2.out.block k hk hr hb)⟩,rfl,s0,s1,s2,d0,d1,d2,(hk3.block _ hB2' h2).trans HPB.out,?_⟩
    exact YH.kept HX2.out hk3.size fun k hB hlt=>hk3.block k hlt (by have:=h.lt.1;omega)
   have HP:Hid (Uc r B2 w (.ok x) (.returned (.tuple #[])) w3):=hP;clear hP hk3 HK2 HX2 HPB;go_wp2
   exact bodyPost_ret (v:=.tuple #[]) (by simp [results,Tryz.results49,go_sem]) rfl HP.out
  ·simp only [if_neg hk] at ce
   obtain rfl:R=.error t1.at0:=by rw [←hres];unfold Yj;simp only [zI,if_neg hk]
   go_wp2_with fail
   refine ce.mono ?_;clear ce;rintro e w3 ⟨hk3,rfl⟩;exact ⟨rfl,⟨hk3.os.trans HK2.out.os,hk3.tape.trans HK2.out.tape,hk3.output.trans HK2.out.output,Nat.le_trans HK2.out.size hk3.size,fun k hk hr hb=>(hk3.block k (Nat.lt_of_lt_of_le hk HK2.out.size) hr).trans (HK2.out.block k hk hr hb)⟩,rfl⟩
mutual
def xN:Ex→Nat
 | .mk _ _ _ kids _=>1+YD kids
def YD:List Ex→Nat
 | []=>0
 | x::xs=>xN x+YD xs
end
theorem Ux (a b:List Ex):YD (a++b)=YD a+YD b:=by
 induction a with
 | nil=>simp [YD]
 | cons x xs ih=>simp [YD,ih,Nat.add_assoc]
theorem zeA (f:Nat) :
  (∀least ts x us,zk f least ts=some (.ok (x,us))→xN x+us.length≤ts.length)∧(∀least e ts x us T,Z5 f least e ts=some (.ok (x,us))→xN e+ts.length≤T→xN x+us.length≤T) ∧
  (∀ts x us,ZP f ts=some (.ok (x,us))→xN x+us.length≤ts.length)∧(∀e ts x us T,zN f e ts=some (.ok (x,us))→xN e+ts.length≤T→xN x+us.length≤T)∧(∀ts x us,Za f ts=some (.ok (x,us))→xN x+us.length≤ts.length) ∧
  (∀pre ts l us T,Yh f pre ts=some (.ok (l,us))→YD pre+ts.length≤T→YD l+us.length≤T)∧(∀ts l us,zR f ts=some (.ok (l,us))→YD l+us.length+1≤ts.length):=by
 induction f with
 | zero=>refine ⟨?_,?_,?_,?_,?_,?_,?_⟩ <;> intros <;> simp_all [zk,Z5,ZP,zN,Za,Yh,zR]
 | succ f ih =>
  obtain ⟨i1,i2,i3,i4,i5,i6,i7⟩:=ih;refine ⟨fun least ts x us h=>?_,fun least e ts x us T h hT=>?_,fun ts x us h=>?_,fun e ts x us T h hT=>?_,fun ts x us h=>?_,fun pre ts l us T h hT=>?_,fun ts l us h=>?_⟩
  ·rw [zk] at h
   split at h
   ·exact i3 _ _ _ h
   ·obtain ⟨y,vs,h1,h2⟩:=zb h
    exact i2 _ _ _ _ _ _ h2 (i1 _ _ _ _ h1)
  ·rw [Z5] at h
   split at h
   ·rename_i hc
    obtain ⟨y,vs,h1,h2⟩:=zb h;have a:=i1 _ _ _ _ h1;have b:=yV (ts:=ts) (by omega)
    have d:1≤xN y:=by cases y;simp [xN]
    refine i2 _ _ _ _ _ _ h2 ?_;simp only [xN,YD];omega
   ·obtain ⟨rfl,rfl⟩:=zt h;exact hT
  ·rw [ZP] at h
   split at h
   ·rename_i hc
    obtain ⟨y,vs,h1,h2⟩:=zb h;have a:=i3 _ _ _ h1;have b:=yV (ts:=ts) (by omega)
    obtain ⟨rfl,rfl⟩:=zt h2;simp only [xN,YD];omega
   ·obtain ⟨y,vs,h1,h2⟩:=zb h
    exact i4 _ _ _ _ _ h2 (i5 _ _ _ h1)
  ·rw [zN] at h
   split at h
   ·rename_i hc
    obtain ⟨y,vs,h1,h2⟩:=zb h;obtain ⟨z,vs',h3,h4⟩:=zb h2;have a:=i1 _ _ _ _ h1;have b:=Zq hc;have c:=z7 h3;have d:1≤xN y:=by cases y;simp [xN]
    refine i4 _ _ _ _ _ h4 ?_;simp only [xN,YD];omega
   ·split at h
    ·rename_i hc
     obtain ⟨y,vs,h1,h2⟩:=zb h;have b:=Zq hc;have c:=yU h1;refine i4 _ _ _ _ _ h2 ?_;simp only [xN,YD];omega
    ·obtain ⟨rfl,rfl⟩:=zt h;exact hT
  ·rw [Za] at h
   split at h
   ·rename_i hc
    have b:=yV (ts:=ts) (by omega)
    obtain ⟨rfl,rfl⟩:=zt h;simp only [xN,YD];omega
   ·split at h
    ·rename_i hc
     have b:=yV (ts:=ts) (by omega)
     obtain ⟨rfl,rfl⟩:=zt h;simp only [xN,YD];omega
    ·split at h
     ·rename_i hc
      have b:=yV (ts:=ts) (by omega)
      split at h
      ·obtain ⟨y,vs,h1,h2⟩:=zb h
       have a:=i7 _ _ _ h1;obtain ⟨rfl,rfl⟩:=zt h2;simp only [xN];omega
      ·obtain ⟨rfl,rfl⟩:=zt h
       simp only [xN,YD];omega
     ·split at h
      ·rename_i hc
       have b:=Zq hc;obtain ⟨rfl,rfl⟩:=zt h;simp only [xN,YD];omega
      ·split at h
       ·rename_i hc
        have b:=Zq hc;obtain ⟨rfl,rfl⟩:=zt h;simp only [xN,YD];omega
       ·split at h
        ·rename_i hc
         have b:=Zq hc;obtain ⟨s,vs,h1,h2⟩:=zb h;obtain ⟨y,vs',h3,h4⟩:=zb h2;have a:=i7 _ _ _ h3;have c:=yU h1;obtain ⟨rfl,rfl⟩:=zt h4;simp only [xN];omega
        ·split at h
         ·rename_i hc
          have b:=Zq hc;obtain ⟨y,vs,h1,h2⟩:=zb h;obtain ⟨z,vs',h3,h4⟩:=zb h2;have a:=i6 _ _ _ _ _ h1 (Nat.le_refl _);have c:=z7 h3;obtain ⟨rfl,rfl⟩:=zt h4;simp only [xN,YD] at a ⊢;omega
         ·obtain ⟨z,vs,h1,h2⟩:=zb h
          obtain ⟨y,vs',h3,h4⟩:=zb h2;obtain ⟨z',vs'',h5,h6⟩:=zb h4;have a:=i1 _ _ _ _ h3;have b:=z7 h1;have c:=z7 h5;obtain ⟨rfl,rfl⟩:=zt h6;omega
  ·rw [Yh] at h
   obtain ⟨y,vs,h1,h2⟩:=zb h;have a:=i1 _ _ _ _ h1
   split at h2
   ·rename_i hc
    have b:=Zq hc;refine i6 _ _ _ _ _ h2 ?_;rw [Ux];simp only [YD];omega
   ·obtain ⟨rfl,rfl⟩:=zt h2
    rw [Ux];simp only [YD];omega
  ·rw [zR] at h
   obtain ⟨z,vs,h1,h2⟩:=zb h;have b:=z7 h1
   split at h2
   ·rename_i hc
    have c:=Zq hc;obtain ⟨rfl,rfl⟩:=zt h2;simp only [YD];omega
   ·obtain ⟨y,vs',h3,h4⟩:=zb h2
    obtain ⟨z',vs'',h5,h6⟩:=zb h4;have a:=i6 _ _ _ _ _ h3 (Nat.le_refl _);have c:=z7 h5;obtain ⟨rfl,rfl⟩:=zt h6;simp only [YD] at a;omega
end Go.Proofs.YtpejpbbdgblbeaaGreatDoor
