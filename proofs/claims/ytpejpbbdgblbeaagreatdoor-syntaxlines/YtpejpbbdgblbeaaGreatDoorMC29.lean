import Derived.Test.YtpejpbbdgblbeaaGreatDoorMC18
import Derived.Test.YtpejpbbdgblbeaaGreatDoorSProg
import Derived.Test.YtpejpbbdgblbeaaGreatDoorShelf
import Derived.Test.YtpejpbbdgblbeaaGreatDoorMC20
import Derived.Test.YtpejpbbdgblbeaaGreatDoorMC15
namespace Go.Proofs.YtpejpbbdgblbeaaGreatDoor
open Go.RowKit Go.Shelf
set_option maxHeartbeats 16000000
set_option maxRecDepth 100000
theorem za0 (c:UInt8) (n:Nat) (w:World) (hn:n≤1099511627776):Calls Tryz.prog 135 #[.string ⟨#[c]⟩,.int .i64 n] w fun e w'=>e=.returned (.string (zb (List.replicate n c)))∧Below w.heap.size w w':=by
 have h:=Tryz.strings_Repeat ⟨#[c]⟩ n w (by omega) (by show 1*n≤_;omega)
 refine h.mono fun e w' h9=>⟨?_,h9.2⟩
 rw [h9.1];have e:=Lib.repeatL_replicate c 1 n;rw [show List.replicate 1 c=[c] from rfl,Nat.mul_one] at e
 show Ending.returned (.string ⟨(Lib.repeatL [c] n).toArray⟩)=_
 rw [e]
theorem v8 (r g o cap:Nat) (ts:List Tk) (w:World) (hE:zg ts) (h:zf r g o cap ts w):Calls Tryz.prog 99 #[.pointer (some ⟨r,0,none⟩)] w (QI r g w (ZW 0 ts)) :=
 zfG r g o cap ts w h hE hE.names za0
theorem zcw (r g o cap:Nat) (ts:List Tk) (w:World) (hE:zg ts) (h:zf r g o cap ts w):Calls Tryz.prog 97 #[.pointer (some ⟨r,0,none⟩)] w (QJ r g w (yq ts)) :=
 zeC r g o cap ts w h hE fun us w1 o1 cap1 _ hE1 h1=>v8 r g o1 cap1 us w1 hE1 h1
theorem uT (r g o cap F:Nat) (ts:List Tk) (w:World) (res:PR (List Pm)) (hp:zZ F [] ts=some res) (hE:zg ts) (h:zf r g o cap ts w) :
  Calls Tryz.prog 96 #[.pointer (some ⟨r,0,none⟩),.func (.func 97) #[.pointer (some ⟨r,0,none⟩)] #[]] w (QK r g w res) :=
 zdv r g o cap F ts w res h hE (YZ hp) fun w1 o1 cap1 ts1 hE1 h1 _=>zcw r g o1 cap1 ts1 w1 hE1 h1
theorem zdG (r g o cap F:Nat) (ts:List Tk) (w:World) (R:PR (List Pm)) (hp:yY F ts=some R) (hE:zg ts) (h:zf r g o cap ts w) :
  Calls Tryz.prog 98 #[.pointer (some ⟨r,0,none⟩),.func (.func 97) #[.pointer (some ⟨r,0,none⟩)] #[]] w (zbH r g w R):=by
 obtain ⟨t,s,rfl⟩:=hE.cons
 unfold yY zW at hp
 simp only [zz,List.tail_cons] at hp
 by_cases h1:zo t [40]=true
 ·have y:=hE.tail (zi h1)
  simp only [if_pos h1,zm] at hp
  by_cases h2:zo (zw s) [41]=true
  ·simp only [if_pos h2,Option.some.injEq] at hp
   have e:R=Yd t s (.error 0):=by unfold Yd;rw [if_pos h1,if_pos h2];exact hp.symm
   rw [e];exact XB r g o cap _ t s w (.error 0) h hE (fun _ _ e=>by cases e) fun _ h9=>absurd h2 (by rw [h9];decide)
  ·simp only [if_neg h2] at hp
   cases h3:zZ F [] s with
   | none=>rw [h3] at hp;cases hp
   | some r3 =>
    rw [h3] at hp
    have e:R=Yd t s r3:=by
     unfold Yd
     rw [if_pos h1,if_neg h2];rcases r3 with a | ⟨l,z⟩
     ·simp only [Option.some.injEq] at hp
      exact hp.symm
     ·simp only at hp ⊢
      by_cases h4:zo (zw z) [41]=true
      ·simp only [if_pos h4,Option.some.injEq] at hp ⊢
       exact hp.symm
      ·simp only [if_neg h4,Option.some.injEq] at hp ⊢
       exact hp.symm
    rw [e];exact XB r g o cap _ t s w r3 h hE (fun l z e=>by subst e;exact yS h3 y) fun _ _ w1 o1 cap1 hR hK=>uT r g o1 cap1 F s w1 r3 h3 y hR
 ·simp only [if_neg h1,zm,Option.some.injEq] at hp
  have e:R=Yd t s (.error 0):=by unfold Yd;rw [if_neg h1];exact hp.symm
  rw [e];exact XB r g o cap _ t s w (.error 0) h hE (fun _ _ e=>by cases e) fun h9=>absurd h9 h1
theorem QZ (r g o cap F:Nat) (hrl:r≠1) (ts:List Tk) (w:World) (res:PR Pg) (hp:Zy F [] [] ts=some res) (hE:zg ts) (h:zf r g o cap ts w) (hl:Zz w) :
  Calls Tryz.prog 22 #[.pointer (some ⟨r,0,none⟩)] w (zdF r g w res) :=
 zcv r g o cap F ts w res h hE hp
  (fun w1 o1 cap1 ts1 r1 line hb hE1 hR _=>qJ r g o1 cap1 line F ts1 w1 r1 hR hE1 hb fun w2 o2 cap2 ts2 r2 hb2 hE2 hR2 _=>uT r g o2 cap2 F ts2 w2 r2 hb2 hE2 hR2)
  (fun w1 o1 cap1 ts1 r1 line hb hE1 hR hK=>zf0 r g o1 cap1 line F ts1 w1 r1 hR hE1 hb (fun w2 o2 cap2 ts2 r2 hb2 hE2 hR2 _=>zdG r g o2 cap2 F ts2 w2 r2 hb2 hE2 hR2) (fun w2 o2 cap2 ts2 hE2 hR2 _=>v8 r g o2 cap2 ts2 w2 hE2 hR2) (fun w2 o2 cap2 ts2 r2 hb2 hE2 hR2 hK2=>(zfZ r g hrl F).block w2 o2 cap2 ts2 r2 hb2 hE2 hR2 (hl.kept (hK.trans hK2) hrl)))
theorem zY {s:List UInt8} {ts us:List Tk} {y:Unit} (h:zW s ts=some (.ok (y,us))):us.length+1=ts.length:=by
 unfold zW at h
 split at h
 ·rename_i o
  simp only [Option.some.injEq,Except.ok.injEq,Prod.mk.injEq] at h;rw [←h.2];exact Zc o
 ·simp at h
theorem yy {s:List UInt8} {ts us:List Tk} (h:yo ts=some (.ok (s,us))):us.length+1=ts.length:=by
 unfold yo at h
 split at h
 ·rename_i o
  simp only [Option.some.injEq,Except.ok.injEq,Prod.mk.injEq] at h;rw [←h.2];exact Yv (by omega)
 ·simp at h
theorem zq {α:Type} {x y:α} {ts us:List Tk} (h:(some (.ok (x,ts)):Option (PR α))=some (.ok (y,us))):x=y∧ts=us:=by
 simpa using h
theorem VX (f:Nat) :
  (∀least ts x us,zh f least ts=some (.ok (x,us))→zN x+us.length≤ts.length)∧(∀least e ts x us T,ZD f least e ts=some (.ok (x,us))→zN e+ts.length≤T→zN x+us.length≤T) ∧
  (∀ts x us,Zp f ts=some (.ok (x,us))→zN x+us.length≤ts.length)∧(∀e ts x us T,zE f e ts=some (.ok (x,us))→zN e+ts.length≤T→zN x+us.length≤T)∧(∀ts x us,zQ f ts=some (.ok (x,us))→zN x+us.length≤ts.length) ∧
  (∀pre ts l us T,yp f pre ts=some (.ok (l,us))→depthL pre+ts.length≤T→depthL l+us.length≤T)∧(∀ts l us,zK f ts=some (.ok (l,us))→depthL l+us.length+1≤ts.length):=by
 induction f with
 | zero=>refine ⟨?_,?_,?_,?_,?_,?_,?_⟩ <;> intros <;> simp_all [zh,ZD,Zp,zE,zQ,yp,zK]
 | succ f ih =>
  obtain ⟨K,W,V,N,Z,Q,U⟩:=ih;refine ⟨fun least ts x us h=>?_,fun least e ts x us T h hT=>?_,fun ts x us h=>?_,fun e ts x us T h hT=>?_,fun ts x us h=>?_,fun pre ts l us T h hT=>?_,fun ts l us h=>?_⟩
  ·rw [zh] at h
   split at h
   ·exact V _ _ _ h
   ·obtain ⟨y,G,A,o⟩:=za h
    exact W _ _ _ _ _ _ o (K _ _ _ _ A)
  ·rw [ZD] at h
   split at h
   ·rename_i D
    obtain ⟨y,G,A,o⟩:=za h;have a:=K _ _ _ _ A;have b:=Yv (ts:=ts) (by omega)
    have d:1≤zN y:=by cases y;simp [zN]
    refine W _ _ _ _ _ _ o ?_;simp only [zN,depthL];omega
   ·obtain ⟨rfl,rfl⟩:=zq h;exact hT
  ·rw [Zp] at h
   split at h
   ·rename_i D
    obtain ⟨y,G,A,o⟩:=za h;have a:=V _ _ _ A;have b:=Yv (ts:=ts) (by omega)
    obtain ⟨rfl,rfl⟩:=zq o;simp only [zN,depthL];omega
   ·obtain ⟨y,G,A,o⟩:=za h
    exact N _ _ _ _ _ o (Z _ _ _ A)
  ·rw [zE] at h
   split at h
   ·rename_i D
    obtain ⟨y,G,A,o⟩:=za h;obtain ⟨z,I,J,H⟩:=za o;have a:=K _ _ _ _ A;have b:=Zc D;have c:=zY J;have d:1≤zN y:=by cases y;simp [zN]
    refine N _ _ _ _ _ H ?_;simp only [zN,depthL];omega
   ·split at h
    ·rename_i D
     obtain ⟨y,G,A,o⟩:=za h;have b:=Zc D;have c:=yy A;refine N _ _ _ _ _ o ?_;simp only [zN,depthL];omega
    ·obtain ⟨rfl,rfl⟩:=zq h;exact hT
  ·rw [zQ] at h
   split at h
   ·rename_i D
    have b:=Yv (ts:=ts) (by omega)
    obtain ⟨rfl,rfl⟩:=zq h;simp only [zN,depthL];omega
   ·split at h
    ·rename_i D
     have b:=Yv (ts:=ts) (by omega)
     obtain ⟨rfl,rfl⟩:=zq h;simp only [zN,depthL];omega
    ·split at h
     ·rename_i D
      have b:=Yv (ts:=ts) (by omega)
      split at h
      ·obtain ⟨y,G,A,o⟩:=za h
       have a:=U _ _ _ A;obtain ⟨rfl,rfl⟩:=zq o;simp only [zN];omega
      ·obtain ⟨rfl,rfl⟩:=zq h
       simp only [zN,depthL];omega
     ·split at h
      ·rename_i D
       have b:=Zc D;obtain ⟨rfl,rfl⟩:=zq h;simp only [zN,depthL];omega
      ·split at h
       ·rename_i D
        have b:=Zc D;obtain ⟨rfl,rfl⟩:=zq h;simp only [zN,depthL];omega
       ·split at h
        ·rename_i D
         have b:=Zc D;obtain ⟨s,G,A,o⟩:=za h;obtain ⟨y,I,J,H⟩:=za o;have a:=U _ _ _ J;have c:=yy A;obtain ⟨rfl,rfl⟩:=zq H;simp only [zN];omega
        ·split at h
         ·rename_i D
          have b:=Zc D;obtain ⟨y,G,A,o⟩:=za h;obtain ⟨z,I,J,H⟩:=za o;have a:=Q _ _ _ _ _ A (Nat.le_refl _);have c:=zY J;obtain ⟨rfl,rfl⟩:=zq H;simp only [zN,depthL] at a ⊢;omega
         ·obtain ⟨z,G,A,o⟩:=za h
          obtain ⟨y,I,J,H⟩:=za o;obtain ⟨Y,L,R,O⟩:=za H;have a:=K _ _ _ _ J;have b:=zY A;have c:=zY R;obtain ⟨rfl,rfl⟩:=zq O;omega
  ·rw [yp] at h
   obtain ⟨y,G,A,o⟩:=za h;have a:=K _ _ _ _ A
   split at o
   ·rename_i D
    have b:=Zc D;refine Q _ _ _ _ _ o ?_;rw [YD];simp only [depthL];omega
   ·obtain ⟨rfl,rfl⟩:=zq o
    rw [YD];simp only [depthL];omega
  ·rw [zK] at h
   obtain ⟨z,G,A,o⟩:=za h;have b:=zY A
   split at o
   ·rename_i D
    have c:=Zc D;obtain ⟨rfl,rfl⟩:=zq o;simp only [depthL];omega
   ·obtain ⟨y,I,J,H⟩:=za o
    obtain ⟨Y,L,R,O⟩:=za H;have a:=Q _ _ _ _ _ J (Nat.le_refl _);have c:=zY R;obtain ⟨rfl,rfl⟩:=zq O;simp only [depthL] at a;omega
theorem uU:∀(f:Nat) (m:List UInt8) (a:Nat) (r:List UInt8),(Zj f m a r).k≠1
 | 0,_,_,_=>by simp [Zj]
 | _+1,_,_,[]=>by simp [Zj]
 | f+1,m,a,x::r=>by
  unfold Zj
  split
  ·simp
  ·split
   ·simp
   ·split
    ·simp
    ·exact uU f _ _ _
theorem zcx (l:List UInt8) (h:(Zg l).k=1):(Zg l).s.length≤20:=by
 unfold Zg at h ⊢
 cases l with
 | nil=>simp at h
 | cons x r =>
  simp only at h ⊢
  split at h
  ·rename_i o
   rw [if_pos o]
   unfold Yk at h ⊢
   split at h
   ·simp at h
   ·rename_i y
    rw [if_neg y]
    split at h
    ·simp at h
    ·rename_i z
     rw [if_neg z];simp only;omega
  ·rename_i o
   rw [if_neg o]
   split at h
   ·unfold Xy at h
    split at h <;> simp at h
   ·rename_i hd
    rw [if_neg hd]
    split at h
    ·exact absurd h (uU _ _ _ _)
    ·unfold Yu at h
     split at h <;> simp at h
theorem za1 (l:List UInt8) (line a:Nat):NmT (tkT l line a):=fun h=>by
 have:=zcx _ (show (Zg (l.drop (a+yJ (l.drop a)))).k=1 from h)
 have e:(tkT l line a).s=(Zg (l.drop (a+yJ (l.drop a)))).s:=rfl;rw [e];omega
theorem za2 (l:List UInt8):∀(f line a:Nat),a≤l.length→l.length<a+f→(scanS l f line a).2.2=0→zg (scanS l f line a).1:=by
 intro f
 induction f with
 | zero=>intro line a G H;omega
 | succ f ih =>
  intro line a G H h;rw [scanS] at h ⊢
  split at h
  ·rename_i s;exact absurd h s
  ·rename_i s
   rw [if_neg s];have A:(zG l a).e=0:=by simpa using s
   split at h
   ·rename_i o
    rw [if_pos o];exact o
   ·rename_i o
    rw [if_neg o]
    split at h
    ·rename_i y;exact absurd h y
    ·rename_i y
     rw [if_neg y];have I:=yM G A o;have z:=ih (ZF l line a) (zC l a+(zG l a).sz) I.2 (by omega) (by simpa using y)
     obtain ⟨t,ts,D⟩:=z.cons;simp only [D] at z ⊢;exact ⟨o,za1 l line a,z⟩
theorem xm (l:List UInt8) (h:(zM l).2.2=0):zg (zM l).1:=by
 unfold zM at h ⊢
 split at h
 ·simp at h
 ·rename_i o
  rw [if_neg o];exact za2 l _ _ _ (Nat.zero_le _) (by omega) h
theorem za3 (f:Nat) :
  (∀ts x us,Zw f ts=some (.ok (x,us))→Zo x+us.length≤ts.length)∧(∀ts l us,zO f ts=some (.ok (l,us))→depthSs l+us.length+1≤ts.length)∧(∀pre ts l us T,Zn f pre ts=some (.ok (l,us))→depthSs pre+ts.length≤T→depthSs l+us.length≤T):=by
 induction f with
 | zero=>refine ⟨?_,?_,?_⟩ <;> intros <;> simp_all [Zw,zO,Zn]
 | succ f ih =>
  obtain ⟨U,L,N⟩:=ih;have G:=(VX f).1;refine ⟨fun ts x us h=>?_,fun ts l us h=>?_,fun pre ts l us T h hT=>?_⟩
  ·rw [Zw] at h
   split at h
   ·rename_i o
    obtain ⟨_,_,s,h⟩:=za h;obtain ⟨_,_,z,h⟩:=za h;obtain ⟨_,_,I,h⟩:=za h;obtain ⟨_,_,R,h⟩:=za h;have J:=Zc o;have A:=yy s;have D:=zY z;have Q:=G _ _ _ _ I;have O:=zY R;obtain ⟨rfl,rfl⟩:=zq h;simp only [Zo,depthSs,depthL];omega
   ·split at h
    ·rename_i o
     obtain ⟨_,_,s,h⟩:=za h;obtain ⟨_,_,z,h⟩:=za h;have J:=Zc o;have A:=G _ _ _ _ s;have D:=L _ _ _ z
     split at h
     ·rename_i o
      obtain ⟨_,_,I,h⟩:=za h;have Q:=Zc o;have O:=L _ _ _ I;obtain ⟨rfl,rfl⟩:=zq h;simp only [Zo,depthL];omega
     ·obtain ⟨rfl,rfl⟩:=zq h
      simp only [Zo,depthSs,depthL];omega
    ·split at h
     ·rename_i o
      obtain ⟨_,_,s,h⟩:=za h;obtain ⟨_,_,z,h⟩:=za h;have J:=Zc o;have A:=G _ _ _ _ s;have D:=L _ _ _ z;obtain ⟨rfl,rfl⟩:=zq h;simp only [Zo,depthSs,depthL];omega
     ·split at h
      ·rename_i o
       have J:=Zc o
       split at h
       ·rename_i K
        have A:=Zc K;obtain ⟨rfl,rfl⟩:=zq h;simp only [Zo,depthSs,depthL];omega
       ·obtain ⟨_,_,s,h⟩:=za h
        obtain ⟨_,_,z,h⟩:=za h;have A:=G _ _ _ _ s;have D:=zY z;obtain ⟨rfl,rfl⟩:=zq h;simp only [Zo,depthSs,depthL];omega
      ·obtain ⟨_,_,s,h⟩:=za h
       have A:=G _ _ _ _ s
       split at h
       ·rename_i o
        have D:=Zc o
        split at h
        ·obtain ⟨_,_,z,h⟩:=za h
         obtain ⟨_,_,I,h⟩:=za h;have Q:=G _ _ _ _ z;have O:=zY I;obtain ⟨rfl,rfl⟩:=zq h;simp only [Zo,depthSs,depthL];omega
        ·simp at h
       ·obtain ⟨_,_,z,h⟩:=za h
        have D:=zY z;obtain ⟨rfl,rfl⟩:=zq h;simp only [Zo,depthSs,depthL];omega
  ·rw [zO] at h
   obtain ⟨_,H,s,h⟩:=za h;have A:=zY s;have D:=N _ _ _ _ H.length h (by simp [depthSs])
   omega
  ·rw [Zn] at h
   split at h
   ·rename_i o
    have J:=Zc o;obtain ⟨rfl,rfl⟩:=zq h;omega
   ·obtain ⟨y,H,s,h⟩:=za h
    have A:=U _ _ _ s;refine N _ _ _ _ T h ?_;rw [xi];simp only [depthSs];omega
theorem Q0 {f:Nat} {ts us:List Tk} {l:List Pm} (h:zZ f [] ts=some (.ok (l,us))) (hE:zg ts):us.length<ts.length:=by
 have o:=hE.pos;obtain ⟨s,A,y,z⟩:=Xj ts.length ts (Nat.le_refl _) hE []
 have a:∀k,zZ (f+k) [] ts=some (.ok (l,us)):=by
  intro k
  induction k with
  | zero=>exact h
  | succ k ih=>exact YZ ih
 have b:=y f;have a:=a s;rw [Nat.add_comm] at a;have e:=Option.some.inj (a.symm.trans b)
 have:=(z l us e.symm).1
 omega
theorem VD {f:Nat} {ts us:List Tk} {l:List Pm} (h:yY f ts=some (.ok (l,us))) (hE:zg ts):us.length≤ts.length:=by
 unfold yY at h
 obtain ⟨_,A,s,h⟩:=za h;have J:=zY s;have o:=zU s hE
 split at h
 ·rename_i y
  have I:=Zc y;obtain ⟨rfl,rfl⟩:=zq h;omega
 ·obtain ⟨_,D,H,h⟩:=za h
  obtain ⟨_,z,G,h⟩:=za h;have I:=Q0 H o;have K:=zY G;obtain ⟨rfl,rfl⟩:=zq h;omega
theorem Q1 {ts us:List Tk} {s:List UInt8} (h:Xs ts=some (.ok (s,us))) (hE:zg ts):us.length≤ts.length:=by
 unfold Xs at h
 split at h
 ·rename_i o
  have y:=Zc o
  have:=(Yx _ _ _ _ (Option.some.inj h) (zy hE o)).2
  omega
 ·obtain ⟨rfl,rfl⟩:=zq h
  omega
theorem za4 {f line:Nat} {ts us:List Tk} {x:Fc} (h:ye f line ts=some (.ok (x,us))) (hE:zg ts):depthSs x.body+us.length≤ts.length:=by
 unfold ye at h
 obtain ⟨_,H,y,h⟩:=za h;obtain ⟨_,I,z,h⟩:=za h;obtain ⟨_,G,J,h⟩:=za h;obtain ⟨b,A,D,h⟩:=za h;have o:=ZM y hE;have s:=xg z o;have K:=yy y;have N:=VD z o;have O:=Q1 J s;have L:=(za3 f).2.1 _ _ _ D;obtain ⟨rfl,rfl⟩:=zq h;simp only;omega
theorem vK (T:Nat):∀(f:Nat) (rs:List Rc) (fs:List Fc) (ts us:List Tk) (p:Pg),Zy f rs fs ts=some (.ok (p,us))→zg ts→depthFs fs+ts.length≤T→depthFs p.funs+us.length≤T
 | 0,_,_,_,_,_,h,_,_=>by simp [Zy] at h
 | f+1,rs,fs,ts,us,p,h,hE,hT=>by
  rw [Zy] at h
  split at h
  ·obtain ⟨rfl,rfl⟩:=zq h
   exact hT
  ·split at h
   ·rename_i s
    have D:=Zc s;have o:=zy hE s;obtain ⟨x,z,y,h⟩:=za h;have A:=XG y o;exact vK T f _ _ _ _ _ h (Yn y o) (by omega)
   ·split at h
    ·rename_i s
     have D:=Zc s;have o:=zy hE s;obtain ⟨x,z,y,h⟩:=za h;have A:=za4 y o;refine vK T f _ _ _ _ _ h (xh y o) ?_;rw [xj];simp only [depthFs];omega
    ·simp at h
abbrev yT (B:Nat) (w:World) (p:Pg) (v:Value):Prop:=xu (fun k=>B≤k) w p v
theorem yT.kept {B:Nat} {w w':World} {p:Pg} {v:Value} (h:yT B w p v) (hs:w.heap.size≤w'.heap.size) (hb:∀k,B≤k→k<w.heap.size→w'.heap[k]?=w.heap[k]?):yT B w' p v:=xu.kept h hs hb
theorem yT.mono {B B':Nat} {w:World} {p:Pg} {v:Value} (h:yT B w p v) (hb:B'≤B):yT B' w p v:=xu.wide h fun k hk=>by omega
abbrev Y0:Pg:=⟨[],[]⟩
theorem zdH (B:Nat) (w:World):yT B w Y0 (.agg #[.slice none 0 0,.slice none 0 0]):=(yP.nil B w).pg
abbrev XI (w:World) (N:Nat) (a b:Value):World:=(w.setCell ⟨N,0,none⟩ a).setCell ⟨N,1,none⟩ b
theorem xo {w:World} {N:Nat} {x0 x1:Value} {ty:TypeId} (h:w.heap[N]?=some (.cells #[x0,x1] ty (0,0))) (a b:Value) :
  (XI w N a b).cell? ⟨N,0,none⟩=some a∧(XI w N a b).cell? ⟨N,1,none⟩=some b:=by
 obtain ⟨o,s,-⟩:=Zv h;exact ⟨(World.cell?_setCell_other _ _ _ _ (by simp)).trans (World.cell?_setCell_same _ _ _ o),World.cell?_setCell_same _ _ _ ((World.cell?_setCell_other _ _ _ _ (by simp)).trans s)⟩
theorem VE (w:World) (N:Nat) (a b:Value) {k:Nat} (hk:k≠N):(XI w N a b).heap[k]?=w.heap[k]?:=by
 rw [Below.heap_setCell _ _ _ _ (by simpa using hk),Below.heap_setCell _ _ _ _ (by simpa using hk)]
theorem za5 {w:World} {N:Nat} {x0 x1:Value} {ty:TypeId} (h:w.heap[N]?=some (.cells #[x0,x1] ty (0,0))) (a b:Value):(XI w N a b).heap[N]?=some (.cells #[a,b] ty (0,0)) :=
 zn b (zn a h)
theorem Xk:∀(f:Nat) (rs:List Rc) (fs:List Fc) (ts us:List Tk) (p:Pg),Zy f rs fs ts=some (.ok (p,us))→zg ts→zg us
 | 0,_,_,_,_,_,h,_=>by simp [Zy] at h
 | f+1,rs,fs,ts,us,p,h,hE=>by
  rw [Zy] at h
  split at h
  ·obtain ⟨rfl,rfl⟩:=zq h
   exact hE
  ·split at h
   ·rename_i o
    obtain ⟨x,s,y,h⟩:=za h;exact Xk f _ _ _ _ _ h (Yn y (zy hE o))
   ·split at h
    ·rename_i o
     obtain ⟨x,s,y,h⟩:=za h;exact Xk f _ _ _ _ _ h (xh y (zy hE o))
    ·simp at h
def ZV (res:PR Pg):Except Nat Pg :=
 match res with
 | .error a=>.error a
 | .ok (x,us)=>if (zw us).k=0 then .ok x else .error (zw us).at0
def VF (r B2:Nat) (w:World) (res:Except Nat Pg) (e:Ending) (w':World):Prop :=
 YQ r B2 w w'∧match res with
  | .error a=>e=ZH a
  | .ok x=>e=.returned (.tuple #[])∧∃(s0:Option Addr) (s1 s2:Nat) (d0:Option Addr) (d1 d2:Nat),w'.heap[B2]?=some (.cells #[.slice s0 s1 s2,.slice d0 d1 d2] 25 (0,0))∧yT w.heap.size w' x (.agg #[.slice s0 s1 s2,.slice d0 d1 d2])
theorem zeR (r g o cap B0 B1 B2 f ty0 ty1:Nat) (ts:List Tk) (w:World) (res:PR Pg) (h:zf r g o cap ts w) (hE:zg ts) (hl:Zz w) (hrl:r≠1) (hp:Zy f [] [] ts=some res)
  (b0:w.heap[B0]?=some (.cells #[.func (.func 22) #[] #[]] ty0 (0,0))) (b1:w.heap[B1]?=some (.cells #[.pointer (some ⟨r,0,none⟩)] ty1 (0,0))) (b2:w.heap[B2]?=some x7) (h1:B1≠r) (h2:B2≠r) (h3:B2≠g) (h4:B1≠B2) :
  Calls Tryz.prog 49 #[.pointer (some ⟨B0,0,none⟩),.pointer (some ⟨B1,0,none⟩),.pointer (some ⟨B2,0,none⟩)] w (VF r B2 w (ZV res)):=by
 generalize hres:ZV res=R;obtain ⟨t0,ai,rfl⟩:=hE.cons;have H:=QZ r g o cap f hrl _ w res hp hE h hl;have c0:w.cell? ⟨B0,0,none⟩=some (.func (.func 22) #[] #[]):=by simp only [World.cell?,b0];rfl
 have c1:w.cell? ⟨B1,0,none⟩=some (.pointer (some ⟨r,0,none⟩)):=by simp only [World.cell?,b1];rfl
 have ae:B2<w.heap.size:=(Array.getElem?_eq_some_iff.1 b2).1;have af:B1<w.heap.size:=(Array.getElem?_eq_some_iff.1 b1).1
 go_enter Tryz.func49,Tryz.ntmps49
 go_wp2_with fail
 refine H.mono ?_;clear H;rintro e w1 ⟨y,G⟩;rcases res with a | ⟨x,us⟩
 ·obtain rfl:=G
  obtain rfl:R=.error a:=by rw [←hres];rfl
  exact ⟨rfl,⟨y.os,y.tape,y.output,y.size,fun k hk hr _=>y.block k hk hr⟩,rfl⟩
 ·obtain ⟨v,o1,J,rfl,hx,V⟩:=G
  obtain ⟨L,T,K,O,N,Q,rfl⟩:=hx.agg;have ad:=Xk f _ _ _ _ _ hp hE;obtain ⟨t1,W,rfl⟩:=ad.cons;have p1:=(y.block _ af h1).trans b1;have p2:=(y.block _ ae h2).trans b2;obtain ⟨q0,q1,qf⟩:=Zv p2;obtain ⟨w2,D⟩:∃w2,w2=XI w1 B2 (.slice L T K) (.slice O N Q):=⟨_,rfl⟩;have z:∀k,k≠B2→w2.heap[k]?=w1.heap[k]?:=fun k hk=>by rw [D];exact VE _ _ _ _ hk
  have I:zf r g o1 J (t1::W) w2:=V.keep (z r (fun e=>h2 e.symm)) (z g (fun e=>h3 e.symm))
  have Z:w1.heap.size≤w2.heap.size:=by rw [D];simp
  have Y:yT w.heap.size w2 x (.agg #[.slice L T K,.slice O N Q]):=yT.kept hx Z fun k hB _=>z k (by omega)
  have pB:w2.heap[B2]?=some (.cells #[.slice L T K,.slice O N Q] 25 (0,0)):=by rw [D];exact za5 p2 _ _
  have ah:w2.cell? ⟨B1,0,none⟩=some (.pointer (some ⟨r,0,none⟩)):=by
   have p3:=(z B1 h4).trans p1;simp only [World.cell?,p3];rfl
  have A:Hid (YQ r B2 w w2):=⟨by rw [D];exact y.os,by rw [D];exact y.tape,by rw [D];exact y.output,Nat.le_trans y.size Z,fun k hk hr hb=>(z k hb).trans (y.block k hk hr)⟩
  have H:=zfi r g o1 J t1 W w2 I;have aa:Hid (yT w.heap.size w2 x (.agg #[.slice L T K,.slice O N Q])):=Y;have ab:Hid (w2.heap[B2]?=some (.cells #[.slice L T K,.slice O N Q] 25 (0,0))):=pB;have ag:=D.symm;have aj:=y.size;have U:B2<w2.heap.size:=(Array.getElem?_eq_some_iff.1 pB).1;clear Y pB I z hx V p1 p2 y D
  by_cases hk:t1.k=0
  ·simp only [if_pos hk] at H
   obtain rfl:R=.ok x:=by rw [←hres];unfold ZV;simp only [zz,if_pos hk]
   go_wp2_with fail
   refine H.mono ?_;clear H;rintro e w3 ⟨s,rfl⟩
   have hP:VF r B2 w (.ok x) (.returned (.tuple #[])) w3:=by
    refine ⟨⟨s.os.trans A.out.os,s.tape.trans A.out.tape,s.output.trans A.out.output,Nat.le_trans A.out.size s.size,fun k hk hr hb=>(s.block k (Nat.lt_of_lt_of_le hk A.out.size) hr).trans (A.out.block k hk hr hb)⟩,rfl,L,T,K,O,N,Q,(s.block _ U h2).trans ab.out,?_⟩
    exact yT.kept aa.out s.size fun k hB hlt=>s.block k hlt (by have:=h.lt.1;omega)
   have HP:Hid (VF r B2 w (.ok x) (.returned (.tuple #[])) w3):=hP;clear hP s A aa ab;go_wp2
   exact bodyPost_ret (v:=.tuple #[]) (by simp [results,Tryz.results49,go_sem]) rfl HP.out
  ·simp only [if_neg hk] at H
   obtain rfl:R=.error t1.at0:=by rw [←hres];unfold ZV;simp only [zz,if_neg hk]
   go_wp2_with fail
   refine H.mono ?_;clear H;rintro e w3 ⟨s,rfl⟩;exact ⟨rfl,⟨s.os.trans A.out.os,s.tape.trans A.out.tape,s.output.trans A.out.output,Nat.le_trans A.out.size s.size,fun k hk hr hb=>(s.block k (Nat.lt_of_lt_of_le hk A.out.size) hr).trans (A.out.block k hk hr hb)⟩,rfl⟩
mutual
def YJ:Ex→Nat
 | .mk _ _ _ kids _=>1+yH kids
def yH:List Ex→Nat
 | []=>0
 | x::xs=>YJ x+yH xs
end
theorem VY (a b:List Ex):yH (a++b)=yH a+yH b:=by
 induction a with
 | nil=>simp [yH]
 | cons x xs ih=>simp [yH,ih,Nat.add_assoc]
theorem zcy (f:Nat) :
  (∀least ts x us,zh f least ts=some (.ok (x,us))→YJ x+us.length≤ts.length)∧(∀least e ts x us T,ZD f least e ts=some (.ok (x,us))→YJ e+ts.length≤T→YJ x+us.length≤T) ∧
  (∀ts x us,Zp f ts=some (.ok (x,us))→YJ x+us.length≤ts.length)∧(∀e ts x us T,zE f e ts=some (.ok (x,us))→YJ e+ts.length≤T→YJ x+us.length≤T)∧(∀ts x us,zQ f ts=some (.ok (x,us))→YJ x+us.length≤ts.length) ∧
  (∀pre ts l us T,yp f pre ts=some (.ok (l,us))→yH pre+ts.length≤T→yH l+us.length≤T)∧(∀ts l us,zK f ts=some (.ok (l,us))→yH l+us.length+1≤ts.length):=by
 induction f with
 | zero=>refine ⟨?_,?_,?_,?_,?_,?_,?_⟩ <;> intros <;> simp_all [zh,ZD,Zp,zE,zQ,yp,zK]
 | succ f ih =>
  obtain ⟨K,W,V,N,Z,Q,U⟩:=ih;refine ⟨fun least ts x us h=>?_,fun least e ts x us T h hT=>?_,fun ts x us h=>?_,fun e ts x us T h hT=>?_,fun ts x us h=>?_,fun pre ts l us T h hT=>?_,fun ts l us h=>?_⟩
  ·rw [zh] at h
   split at h
   ·exact V _ _ _ h
   ·obtain ⟨y,G,A,o⟩:=za h
    exact W _ _ _ _ _ _ o (K _ _ _ _ A)
  ·rw [ZD] at h
   split at h
   ·rename_i D
    obtain ⟨y,G,A,o⟩:=za h;have a:=K _ _ _ _ A;have b:=Yv (ts:=ts) (by omega)
    have d:1≤YJ y:=by cases y;simp [YJ]
    refine W _ _ _ _ _ _ o ?_;simp only [YJ,yH];omega
   ·obtain ⟨rfl,rfl⟩:=zq h;exact hT
  ·rw [Zp] at h
   split at h
   ·rename_i D
    obtain ⟨y,G,A,o⟩:=za h;have a:=V _ _ _ A;have b:=Yv (ts:=ts) (by omega)
    obtain ⟨rfl,rfl⟩:=zq o;simp only [YJ,yH];omega
   ·obtain ⟨y,G,A,o⟩:=za h
    exact N _ _ _ _ _ o (Z _ _ _ A)
  ·rw [zE] at h
   split at h
   ·rename_i D
    obtain ⟨y,G,A,o⟩:=za h;obtain ⟨z,I,J,H⟩:=za o;have a:=K _ _ _ _ A;have b:=Zc D;have c:=zY J;have d:1≤YJ y:=by cases y;simp [YJ]
    refine N _ _ _ _ _ H ?_;simp only [YJ,yH];omega
   ·split at h
    ·rename_i D
     obtain ⟨y,G,A,o⟩:=za h;have b:=Zc D;have c:=yy A;refine N _ _ _ _ _ o ?_;simp only [YJ,yH];omega
    ·obtain ⟨rfl,rfl⟩:=zq h;exact hT
  ·rw [zQ] at h
   split at h
   ·rename_i D
    have b:=Yv (ts:=ts) (by omega)
    obtain ⟨rfl,rfl⟩:=zq h;simp only [YJ,yH];omega
   ·split at h
    ·rename_i D
     have b:=Yv (ts:=ts) (by omega)
     obtain ⟨rfl,rfl⟩:=zq h;simp only [YJ,yH];omega
    ·split at h
     ·rename_i D
      have b:=Yv (ts:=ts) (by omega)
      split at h
      ·obtain ⟨y,G,A,o⟩:=za h
       have a:=U _ _ _ A;obtain ⟨rfl,rfl⟩:=zq o;simp only [YJ];omega
      ·obtain ⟨rfl,rfl⟩:=zq h
       simp only [YJ,yH];omega
     ·split at h
      ·rename_i D
       have b:=Zc D;obtain ⟨rfl,rfl⟩:=zq h;simp only [YJ,yH];omega
      ·split at h
       ·rename_i D
        have b:=Zc D;obtain ⟨rfl,rfl⟩:=zq h;simp only [YJ,yH];omega
       ·split at h
        ·rename_i D
         have b:=Zc D;obtain ⟨s,G,A,o⟩:=za h;obtain ⟨y,I,J,H⟩:=za o;have a:=U _ _ _ J;have c:=yy A;obtain ⟨rfl,rfl⟩:=zq H;simp only [YJ];omega
        ·split at h
         ·rename_i D
          have b:=Zc D;obtain ⟨y,G,A,o⟩:=za h;obtain ⟨z,I,J,H⟩:=za o;have a:=Q _ _ _ _ _ A (Nat.le_refl _);have c:=zY J;obtain ⟨rfl,rfl⟩:=zq H;simp only [YJ,yH] at a ⊢;omega
         ·obtain ⟨z,G,A,o⟩:=za h
          obtain ⟨y,I,J,H⟩:=za o;obtain ⟨Y,L,R,O⟩:=za H;have a:=K _ _ _ _ J;have b:=zY A;have c:=zY R;obtain ⟨rfl,rfl⟩:=zq O;omega
  ·rw [yp] at h
   obtain ⟨y,G,A,o⟩:=za h;have a:=K _ _ _ _ A
   split at o
   ·rename_i D
    have b:=Zc D;refine Q _ _ _ _ _ o ?_;rw [VY];simp only [yH];omega
   ·obtain ⟨rfl,rfl⟩:=zq o
    rw [VY];simp only [yH];omega
  ·rw [zK] at h
   obtain ⟨z,G,A,o⟩:=za h;have b:=zY A
   split at o
   ·rename_i D
    have c:=Zc D;obtain ⟨rfl,rfl⟩:=zq o;simp only [yH];omega
   ·obtain ⟨y,I,J,H⟩:=za o
    obtain ⟨Y,L,R,O⟩:=za H;have a:=Q _ _ _ _ _ J (Nat.le_refl _);have c:=zY R;obtain ⟨rfl,rfl⟩:=zq O;simp only [yH] at a;omega
end Go.Proofs.YtpejpbbdgblbeaaGreatDoor
