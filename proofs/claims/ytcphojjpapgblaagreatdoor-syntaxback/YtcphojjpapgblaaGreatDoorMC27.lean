import Derived.Test.YtcphojjpapgblaaGreatDoorMC17
import Derived.Test.YtcphojjpapgblaaGreatDoorSProg
import Derived.Test.YtcphojjpapgblaaGreatDoorShelf
import Derived.Test.YtcphojjpapgblaaGreatDoorMC19
import Derived.Test.YtcphojjpapgblaaGreatDoorMC14
import Derived.Test.YtcphojjpapgblaaGreatDoorMC4
import Derived.Test.YtcphojjpapgblaaGreatDoorMC11
namespace Go.Proofs.YtcphojjpapgblaaGreatDoor
open Go.RowKit Go.Shelf
set_option maxHeartbeats 16000000
set_option maxRecDepth 100000
theorem zcr (c:UInt8) (n:Nat) (w:World) (hn:n≤1099511627776):Calls Tryz.prog 133 #[.string ⟨#[c]⟩,.int .i64 n] w fun e w'=>e=.returned (.string (zb (List.replicate n c)))∧Below w.heap.size w w':=by
 have h:=Tryz.strings_Repeat ⟨#[c]⟩ n w (by omega) (by show 1*n≤_;omega)
 refine h.mono fun e w' h9=>⟨?_,h9.2⟩
 rw [h9.1];have e:=Lib.repeatL_replicate c 1 n;rw [show List.replicate 1 c=[c] from rfl,Nat.mul_one] at e
 show Ending.returned (.string ⟨(Lib.repeatL [c] n).toArray⟩)=_
 rw [e]
theorem VL (r g o cap:Nat) (ts:List Tk) (w:World) (hE:zi ts) (h:zf r g o cap ts w):Calls Tryz.prog 97 #[.pointer (some ⟨r,0,none⟩)] w (za3 r g w (ZK 0 ts)) :=
 zhX r g o cap ts w h hE hE.names zcr
theorem zed (r g o cap:Nat) (ts:List Tk) (w:World) (hE:zi ts) (h:zf r g o cap ts w):Calls Tryz.prog 95 #[.pointer (some ⟨r,0,none⟩)] w (za4 r g w (Z9 ts)) :=
 zgL r g o cap ts w h hE fun us w1 o1 cap1 _ hE1 h1=>VL r g o1 cap1 us w1 hE1 h1
theorem UQ (r g o cap F:Nat) (ts:List Tk) (w:World) (res:PR (List Pm)) (hp:zP F [] ts=some res) (hE:zi ts) (h:zf r g o cap ts w) :
  Calls Tryz.prog 94 #[.pointer (some ⟨r,0,none⟩),.func (.func 95) #[.pointer (some ⟨r,0,none⟩)] #[]] w (za5 r g w res) :=
 zfg r g o cap F ts w res h hE (Yy hp) fun w1 o1 cap1 ts1 hE1 h1 _=>zed r g o1 cap1 ts1 w1 hE1 h1
theorem zfp (r g o cap F:Nat) (ts:List Tk) (w:World) (R:PR (List Pm)) (hp:yw F ts=some R) (hE:zi ts) (h:zf r g o cap ts w) :
  Calls Tryz.prog 96 #[.pointer (some ⟨r,0,none⟩),.func (.func 95) #[.pointer (some ⟨r,0,none⟩)] #[]] w (zdj r g w R):=by
 obtain ⟨t,y,rfl⟩:=hE.cons
 unfold yw zR at hp
 simp only [zC,List.tail_cons] at hp
 by_cases h1:zm t [40]=true
 ·have z:=hE.tail (zk h1)
  simp only [if_pos h1,zh] at hp
  by_cases h2:zm (zu y) [41]=true
  ·simp only [if_pos h2,Option.some.injEq] at hp
   have e:R=Yo t y (.error 0):=by unfold Yo;rw [if_pos h1,if_pos h2];exact hp.symm
   rw [e];exact XW r g o cap _ t y w (.error 0) h hE (fun _ _ e=>by cases e) fun _ h9=>absurd h2 (by rw [h9];decide)
  ·simp only [if_neg h2] at hp
   cases h3:zP F [] y with
   | none=>rw [h3] at hp;cases hp
   | some r3 =>
    rw [h3] at hp
    have e:R=Yo t y r3:=by
     unfold Yo
     rw [if_pos h1,if_neg h2];rcases r3 with a | ⟨l,A⟩
     ·simp only [Option.some.injEq] at hp
      exact hp.symm
     ·simp only at hp ⊢
      by_cases h4:zm (zu A) [41]=true
      ·simp only [if_pos h4,Option.some.injEq] at hp ⊢
       exact hp.symm
      ·simp only [if_neg h4,Option.some.injEq] at hp ⊢
       exact hp.symm
    rw [e];exact XW r g o cap _ t y w r3 h hE (fun l A e=>by subst e;exact Yb h3 z) fun _ _ w1 o1 cap1 hR hK=>UQ r g o1 cap1 F y w1 r3 h3 z hR
 ·simp only [if_neg h1,zh,Option.some.injEq] at hp
  have e:R=Yo t y (.error 0):=by unfold Yo;rw [if_neg h1];exact hp.symm
  rw [e];exact XW r g o cap _ t y w (.error 0) h hE (fun _ _ e=>by cases e) fun h9=>absurd h9 h1
theorem zbj (r g o cap F:Nat) (hrl:r≠1) (ts:List Tk) (w:World) (res:PR Pg) (hp:Zp F [] [] ts=some res) (hE:zi ts) (h:zf r g o cap ts w) (hl:ZA w) :
  Calls Tryz.prog 20 #[.pointer (some ⟨r,0,none⟩)] w (zfo r g w res) :=
 zec r g o cap F ts w res h hE hp
  (fun w1 o1 cap1 ts1 r1 line hb hE1 hR _=>Q7 r g o1 cap1 line F ts1 w1 r1 hR hE1 hb fun w2 o2 cap2 ts2 r2 hb2 hE2 hR2 _=>UQ r g o2 cap2 F ts2 w2 r2 hb2 hE2 hR2)
  (fun w1 o1 cap1 ts1 r1 line hb hE1 hR hK=>zih r g o1 cap1 line F ts1 w1 r1 hR hE1 hb (fun w2 o2 cap2 ts2 r2 hb2 hE2 hR2 _=>zfp r g o2 cap2 F ts2 w2 r2 hb2 hE2 hR2) (fun w2 o2 cap2 ts2 hE2 hR2 _=>VL r g o2 cap2 ts2 w2 hE2 hR2) (fun w2 o2 cap2 ts2 r2 hb2 hE2 hR2 hK2=>(zig r g hrl F).block w2 o2 cap2 ts2 r2 hb2 hE2 hR2 (hl.kept (hK.trans hK2) hrl)))
theorem z7 {s:List UInt8} {ts us:List Tk} {y:Unit} (h:zR s ts=some (.ok (y,us))):us.length+1=ts.length:=by
 unfold zR at h
 split at h
 ·rename_i o
  simp only [Option.some.injEq,Except.ok.injEq,Prod.mk.injEq] at h;rw [←h.2];exact Zc o
 ·simp at h
theorem yG {s:List UInt8} {ts us:List Tk} (h:Z6 ts=some (.ok (s,us))):us.length+1=ts.length:=by
 unfold Z6 at h
 split at h
 ·rename_i o
  simp only [Option.some.injEq,Except.ok.injEq,Prod.mk.injEq] at h;rw [←h.2];exact YF (by omega)
 ·simp at h
theorem zq {α:Type} {x y:α} {ts us:List Tk} (h:(some (.ok (x,ts)):Option (PR α))=some (.ok (y,us))):x=y∧ts=us:=by
 simpa using h
theorem uN (f:Nat) :
  (∀least ts x us,zg f least ts=some (.ok (x,us))→zN x+us.length≤ts.length)∧(∀least e ts x us T,Zs f least e ts=some (.ok (x,us))→zN e+ts.length≤T→zN x+us.length≤T) ∧
  (∀ts x us,Zm f ts=some (.ok (x,us))→zN x+us.length≤ts.length)∧(∀e ts x us T,zx f e ts=some (.ok (x,us))→zN e+ts.length≤T→zN x+us.length≤T)∧(∀ts x us,zH f ts=some (.ok (x,us))→zN x+us.length≤ts.length) ∧
  (∀pre ts l us T,Z1 f pre ts=some (.ok (l,us))→depthL pre+ts.length≤T→depthL l+us.length≤T)∧(∀ts l us,zG f ts=some (.ok (l,us))→depthL l+us.length+1≤ts.length):=by
 induction f with
 | zero=>refine ⟨?_,?_,?_,?_,?_,?_,?_⟩ <;> intros <;> simp_all [zg,Zs,Zm,zx,zH,Z1,zG]
 | succ f ih =>
  obtain ⟨N,V,W,O,Z,U,X⟩:=ih;refine ⟨fun least ts x us h=>?_,fun least e ts x us T h hT=>?_,fun ts x us h=>?_,fun e ts x us T h hT=>?_,fun ts x us h=>?_,fun pre ts l us T h hT=>?_,fun ts l us h=>?_⟩
  ·rw [zg] at h
   split at h
   ·exact W _ _ _ h
   ·obtain ⟨y,G,A,o⟩:=za h
    exact V _ _ _ _ _ _ o (N _ _ _ _ A)
  ·rw [Zs] at h
   split at h
   ·rename_i D
    obtain ⟨y,G,A,o⟩:=za h;have a:=N _ _ _ _ A;have b:=YF (ts:=ts) (by omega)
    have d:1≤zN y:=by cases y;simp [zN]
    refine V _ _ _ _ _ _ o ?_;simp only [zN,depthL];omega
   ·obtain ⟨rfl,rfl⟩:=zq h;exact hT
  ·rw [Zm] at h
   split at h
   ·rename_i D
    obtain ⟨y,G,A,o⟩:=za h;have a:=W _ _ _ A;have b:=YF (ts:=ts) (by omega)
    obtain ⟨rfl,rfl⟩:=zq o;simp only [zN,depthL];omega
   ·obtain ⟨y,G,A,o⟩:=za h
    exact O _ _ _ _ _ o (Z _ _ _ A)
  ·rw [zx] at h
   split at h
   ·rename_i D
    obtain ⟨y,G,A,o⟩:=za h;obtain ⟨z,H,J,I⟩:=za o;have a:=N _ _ _ _ A;have b:=Zc D;have c:=z7 J;have d:1≤zN y:=by cases y;simp [zN]
    refine O _ _ _ _ _ I ?_;simp only [zN,depthL];omega
   ·split at h
    ·rename_i D
     obtain ⟨y,G,A,o⟩:=za h;have b:=Zc D;have c:=yG A;refine O _ _ _ _ _ o ?_;simp only [zN,depthL];omega
    ·obtain ⟨rfl,rfl⟩:=zq h;exact hT
  ·rw [zH] at h
   split at h
   ·rename_i D
    have b:=YF (ts:=ts) (by omega)
    obtain ⟨rfl,rfl⟩:=zq h;simp only [zN,depthL];omega
   ·split at h
    ·rename_i D
     have b:=YF (ts:=ts) (by omega)
     obtain ⟨rfl,rfl⟩:=zq h;simp only [zN,depthL];omega
    ·split at h
     ·rename_i D
      have b:=YF (ts:=ts) (by omega)
      split at h
      ·obtain ⟨y,G,A,o⟩:=za h
       have a:=X _ _ _ A;obtain ⟨rfl,rfl⟩:=zq o;simp only [zN];omega
      ·obtain ⟨rfl,rfl⟩:=zq h
       simp only [zN,depthL];omega
     ·split at h
      ·rename_i D
       have b:=Zc D;obtain ⟨rfl,rfl⟩:=zq h;simp only [zN,depthL];omega
      ·split at h
       ·rename_i D
        have b:=Zc D;obtain ⟨rfl,rfl⟩:=zq h;simp only [zN,depthL];omega
       ·split at h
        ·rename_i D
         have b:=Zc D;obtain ⟨s,G,A,o⟩:=za h;obtain ⟨y,H,J,I⟩:=za o;have a:=X _ _ _ J;have c:=yG A;obtain ⟨rfl,rfl⟩:=zq I;simp only [zN];omega
        ·split at h
         ·rename_i D
          have b:=Zc D;obtain ⟨y,G,A,o⟩:=za h;obtain ⟨z,H,J,I⟩:=za o;have a:=U _ _ _ _ _ A (Nat.le_refl _);have c:=z7 J;obtain ⟨rfl,rfl⟩:=zq I;simp only [zN,depthL] at a ⊢;omega
         ·obtain ⟨z,G,A,o⟩:=za h
          obtain ⟨y,H,J,I⟩:=za o;obtain ⟨Y,L,Q,R⟩:=za I;have a:=N _ _ _ _ J;have b:=z7 A;have c:=z7 Q;obtain ⟨rfl,rfl⟩:=zq R;omega
  ·rw [Z1] at h
   obtain ⟨y,G,A,o⟩:=za h;have a:=N _ _ _ _ A
   split at o
   ·rename_i D
    have b:=Zc D;refine U _ _ _ _ _ o ?_;rw [YT];simp only [depthL];omega
   ·obtain ⟨rfl,rfl⟩:=zq o
    rw [YT];simp only [depthL];omega
  ·rw [zG] at h
   obtain ⟨z,G,A,o⟩:=za h;have b:=z7 A
   split at o
   ·rename_i D
    have c:=Zc D;obtain ⟨rfl,rfl⟩:=zq o;simp only [depthL];omega
   ·obtain ⟨y,H,J,I⟩:=za o
    obtain ⟨Y,L,Q,R⟩:=za I;have a:=U _ _ _ _ _ J (Nat.le_refl _);have c:=z7 Q;obtain ⟨rfl,rfl⟩:=zq R;simp only [depthL] at a;omega
theorem UR:∀(f:Nat) (m:List UInt8) (a:Nat) (r:List UInt8),(Zo f m a r).k≠1
 | 0,_,_,_=>by simp [Zo]
 | _+1,_,_,[]=>by simp [Zo]
 | f+1,m,a,x::r=>by
  unfold Zo
  split
  ·simp
  ·split
   ·simp
   ·split
    ·simp
    ·exact UR f _ _ _
theorem zee (l:List UInt8) (h:(Zb l).k=1):(Zb l).s.length≤20:=by
 unfold Zb at h ⊢
 cases l with
 | nil=>simp at h
 | cons x r =>
  simp only at h ⊢
  split at h
  ·rename_i o
   rw [if_pos o]
   unfold Yf at h ⊢
   split at h
   ·simp at h
   ·rename_i z
    rw [if_neg z]
    split at h
    ·simp at h
    ·rename_i y
     rw [if_neg y];simp only;omega
  ·rename_i o
   rw [if_neg o]
   split at h
   ·unfold XT at h
    split at h <;> simp at h
   ·rename_i hd
    rw [if_neg hd]
    split at h
    ·exact absurd h (UR _ _ _ _)
    ·unfold Yu at h
     split at h <;> simp at h
theorem zcs (l:List UInt8) (line a:Nat):NmT (tkT l line a):=fun h=>by
 have:=zee _ (show (Zb (l.drop (a+Z0 (l.drop a)))).k=1 from h)
 have e:(tkT l line a).s=(Zb (l.drop (a+Z0 (l.drop a)))).s:=rfl;rw [e];omega
theorem zct (l:List UInt8):∀(f line a:Nat),a≤l.length→l.length<a+f→(scanS l f line a).2.2=0→zi (scanS l f line a).1:=by
 intro f
 induction f with
 | zero=>intro line a H I;omega
 | succ f ih =>
  intro line a H I h;rw [scanS] at h ⊢
  split at h
  ·rename_i z;exact absurd h z
  ·rename_i z
   rw [if_neg z];have A:(zQ l a).e=0:=by simpa using z
   split at h
   ·rename_i o
    rw [if_pos o];exact o
   ·rename_i o
    rw [if_neg o]
    split at h
    ·rename_i y;exact absurd h y
    ·rename_i y
     rw [if_neg y];have J:=YH H A o;have G:=ih (yd l line a) (zO l a+(zQ l a).sz) J.2 (by omega) (by simpa using y)
     obtain ⟨t,ts,D⟩:=G.cons;simp only [D] at G ⊢;exact ⟨o,zcs l line a,G⟩
theorem xB (l:List UInt8) (h:(zW l).2.2=0):zi (zW l).1:=by
 unfold zW at h ⊢
 split at h
 ·simp at h
 ·rename_i o
  rw [if_neg o];exact zct l _ _ _ (Nat.zero_le _) (by omega) h
theorem zcu (f:Nat) :
  (∀ts x us,Zg f ts=some (.ok (x,us))→Zn x+us.length≤ts.length)∧(∀ts l us,zI f ts=some (.ok (l,us))→depthSs l+us.length+1≤ts.length)∧(∀pre ts l us T,Zh f pre ts=some (.ok (l,us))→depthSs pre+ts.length≤T→depthSs l+us.length≤T):=by
 induction f with
 | zero=>refine ⟨?_,?_,?_⟩ <;> intros <;> simp_all [Zg,zI,Zh]
 | succ f ih =>
  obtain ⟨V,N,R⟩:=ih;have H:=(uN f).1;refine ⟨fun ts x us h=>?_,fun ts l us h=>?_,fun pre ts l us T h hT=>?_⟩
  ·rw [Zg] at h
   split at h
   ·rename_i z
    obtain ⟨_,_,o,h⟩:=za h;obtain ⟨_,_,A,h⟩:=za h;obtain ⟨_,_,J,h⟩:=za h;obtain ⟨_,_,W,h⟩:=za h;have L:=Zc z;have D:=yG o;have G:=z7 A;have U:=H _ _ _ _ J;have Q:=z7 W;obtain ⟨rfl,rfl⟩:=zq h;simp only [Zn,depthSs,depthL];omega
   ·split at h
    ·rename_i z
     obtain ⟨_,_,o,h⟩:=za h;obtain ⟨_,_,A,h⟩:=za h;have L:=Zc z;have D:=H _ _ _ _ o;have G:=N _ _ _ A
     split at h
     ·rename_i z
      obtain ⟨_,_,J,h⟩:=za h;have U:=Zc z;have Q:=N _ _ _ J;obtain ⟨rfl,rfl⟩:=zq h;simp only [Zn,depthL];omega
     ·obtain ⟨rfl,rfl⟩:=zq h
      simp only [Zn,depthSs,depthL];omega
    ·split at h
     ·rename_i z
      obtain ⟨_,_,o,h⟩:=za h;obtain ⟨_,_,A,h⟩:=za h;have L:=Zc z;have D:=H _ _ _ _ o;have G:=N _ _ _ A;obtain ⟨rfl,rfl⟩:=zq h;simp only [Zn,depthSs,depthL];omega
     ·split at h
      ·rename_i z
       have L:=Zc z
       split at h
       ·rename_i O
        have D:=Zc O;obtain ⟨rfl,rfl⟩:=zq h;simp only [Zn,depthSs,depthL];omega
       ·obtain ⟨_,_,o,h⟩:=za h
        obtain ⟨_,_,A,h⟩:=za h;have D:=H _ _ _ _ o;have G:=z7 A;obtain ⟨rfl,rfl⟩:=zq h;simp only [Zn,depthSs,depthL];omega
      ·obtain ⟨_,_,o,h⟩:=za h
       have D:=H _ _ _ _ o
       split at h
       ·rename_i z
        have G:=Zc z
        split at h
        ·obtain ⟨_,_,A,h⟩:=za h
         obtain ⟨_,_,J,h⟩:=za h;have U:=H _ _ _ _ A;have Q:=z7 J;obtain ⟨rfl,rfl⟩:=zq h;simp only [Zn,depthSs,depthL];omega
        ·simp at h
       ·obtain ⟨_,_,A,h⟩:=za h
        have G:=z7 A;obtain ⟨rfl,rfl⟩:=zq h;simp only [Zn,depthSs,depthL];omega
  ·rw [zI] at h
   obtain ⟨_,I,o,h⟩:=za h;have D:=z7 o;have G:=R _ _ _ _ I.length h (by simp [depthSs])
   omega
  ·rw [Zh] at h
   split at h
   ·rename_i z
    have L:=Zc z;obtain ⟨rfl,rfl⟩:=zq h;omega
   ·obtain ⟨y,I,o,h⟩:=za h
    have D:=V _ _ _ o;refine R _ _ _ _ T h ?_;rw [xz];simp only [depthSs];omega
theorem zbk {f:Nat} {ts us:List Tk} {l:List Pm} (h:zP f [] ts=some (.ok (l,us))) (hE:zi ts):us.length<ts.length:=by
 have o:=hE.pos;obtain ⟨A,D,z,y⟩:=XD ts.length ts (Nat.le_refl _) hE []
 have a:∀k,zP (f+k) [] ts=some (.ok (l,us)):=by
  intro k
  induction k with
  | zero=>exact h
  | succ k ih=>exact Yy ih
 have b:=z f;have a:=a A;rw [Nat.add_comm] at a;have e:=Option.some.inj (a.symm.trans b)
 have:=(y l us e.symm).1
 omega
theorem ue {f:Nat} {ts us:List Tk} {l:List Pm} (h:yw f ts=some (.ok (l,us))) (hE:zi ts):us.length≤ts.length:=by
 unfold yw at h
 obtain ⟨_,z,y,h⟩:=za h;have N:=z7 y;have o:=zZ y hE
 split at h
 ·rename_i D
  have I:=Zc D;obtain ⟨rfl,rfl⟩:=zq h;omega
 ·obtain ⟨_,G,A,h⟩:=za h
  obtain ⟨_,H,J,h⟩:=za h;have I:=zbk A o;have L:=z7 J;obtain ⟨rfl,rfl⟩:=zq h;omega
theorem zbl {ts us:List Tk} {s:List UInt8} (h:Xk ts=some (.ok (s,us))) (hE:zi ts):us.length≤ts.length:=by
 unfold Xk at h
 split at h
 ·rename_i o
  have y:=Zc o
  have:=(YK _ _ _ _ (Option.some.inj h) (zA hE o)).2
  omega
 ·obtain ⟨rfl,rfl⟩:=zq h
  omega
theorem zcv {f line:Nat} {ts us:List Tk} {x:Fc} (h:ZZ f line ts=some (.ok (x,us))) (hE:zi ts):depthSs x.body+us.length≤ts.length:=by
 unfold ZZ at h
 obtain ⟨_,D,A,h⟩:=za h;obtain ⟨_,G,z,h⟩:=za h;obtain ⟨_,H,L,h⟩:=za h;obtain ⟨b,I,J,h⟩:=za h;have o:=ZM A hE;have y:=xx z o;have O:=yG A;have Q:=ue z o;have N:=zbl L y;have R:=(zcu f).2.1 _ _ _ J;obtain ⟨rfl,rfl⟩:=zq h;simp only;omega
theorem Vo (T:Nat):∀(f:Nat) (rs:List Rc) (fs:List Fc) (ts us:List Tk) (p:Pg),Zp f rs fs ts=some (.ok (p,us))→zi ts→depthFs fs+ts.length≤T→depthFs p.funs+us.length≤T
 | 0,_,_,_,_,_,h,_,_=>by simp [Zp] at h
 | f+1,rs,fs,ts,us,p,h,hE,hT=>by
  rw [Zp] at h
  split at h
  ·obtain ⟨rfl,rfl⟩:=zq h
   exact hT
  ·split at h
   ·rename_i y
    have D:=Zc y;have o:=zA hE y;obtain ⟨x,A,z,h⟩:=za h;have G:=X6 z o;exact Vo T f _ _ _ _ _ h (Yx z o) (by omega)
   ·split at h
    ·rename_i y
     have D:=Zc y;have o:=zA hE y;obtain ⟨x,A,z,h⟩:=za h;have G:=zcv z o;refine Vo T f _ _ _ _ _ h (xy z o) ?_;rw [xA];simp only [depthFs];omega
    ·simp at h
abbrev Yz (B:Nat) (w:World) (p:Pg) (v:Value):Prop:=Xl (fun k=>B≤k) w p v
theorem Yz.kept {B:Nat} {w w':World} {p:Pg} {v:Value} (h:Yz B w p v) (hs:w.heap.size≤w'.heap.size) (hb:∀k,B≤k→k<w.heap.size→w'.heap[k]?=w.heap[k]?):Yz B w' p v:=Xl.kept h hs hb
theorem Yz.mono {B B':Nat} {w:World} {p:Pg} {v:Value} (h:Yz B w p v) (hb:B'≤B):Yz B' w p v:=Xl.wide h fun k hk=>by omega
abbrev xf:Pg:=⟨[],[]⟩
theorem zfq (B:Nat) (w:World):Yz B w xf (.agg #[.slice none 0 0,.slice none 0 0]):=(yX.nil B w).pg
abbrev X8 (w:World) (N:Nat) (a b:Value):World:=(w.setCell ⟨N,0,none⟩ a).setCell ⟨N,1,none⟩ b
theorem xC {w:World} {N:Nat} {x0 x1:Value} {ty:TypeId} (h:w.heap[N]?=some (.cells #[x0,x1] ty (0,0))) (a b:Value) :
  (X8 w N a b).cell? ⟨N,0,none⟩=some a∧(X8 w N a b).cell? ⟨N,1,none⟩=some b:=by
 obtain ⟨o,y,-⟩:=ZJ h;exact ⟨(World.cell?_setCell_other _ _ _ _ (by simp)).trans (World.cell?_setCell_same _ _ _ o),World.cell?_setCell_same _ _ _ ((World.cell?_setCell_other _ _ _ _ (by simp)).trans y)⟩
theorem uf (w:World) (N:Nat) (a b:Value) {k:Nat} (hk:k≠N):(X8 w N a b).heap[k]?=w.heap[k]?:=by
 rw [Below.heap_setCell _ _ _ _ (by simpa using hk),Below.heap_setCell _ _ _ _ (by simpa using hk)]
theorem zcw {w:World} {N:Nat} {x0 x1:Value} {ty:TypeId} (h:w.heap[N]?=some (.cells #[x0,x1] ty (0,0))) (a b:Value):(X8 w N a b).heap[N]?=some (.cells #[a,b] ty (0,0)) :=
 zo b (zo a h)
theorem Vp:∀(f:Nat) (rs:List Rc) (fs:List Fc) (ts us:List Tk) (p:Pg),Zp f rs fs ts=some (.ok (p,us))→zi ts→zi us
 | 0,_,_,_,_,_,h,_=>by simp [Zp] at h
 | f+1,rs,fs,ts,us,p,h,hE=>by
  rw [Zp] at h
  split at h
  ·obtain ⟨rfl,rfl⟩:=zq h
   exact hE
  ·split at h
   ·rename_i y
    obtain ⟨x,o,z,h⟩:=za h;exact Vp f _ _ _ _ _ h (Yx z (zA hE y))
   ·split at h
    ·rename_i y
     obtain ⟨x,o,z,h⟩:=za h;exact Vp f _ _ _ _ _ h (xy z (zA hE y))
    ·simp at h
def yx (res:PR Pg):Except Nat Pg :=
 match res with
 | .error a=>.error a
 | .ok (x,us)=>if (zu us).k=0 then .ok x else .error (zu us).at0
def ug (r B2:Nat) (w:World) (res:Except Nat Pg) (e:Ending) (w':World):Prop :=
 Y3 r B2 w w'∧match res with
  | .error a=>e=ZG a
  | .ok x=>e=.returned (.tuple #[])∧∃(s0:Option Addr) (s1 s2:Nat) (d0:Option Addr) (d1 d2:Nat),w'.heap[B2]?=some (.cells #[.slice s0 s1 s2,.slice d0 d1 d2] 25 (0,0))∧Yz w.heap.size w' x (.agg #[.slice s0 s1 s2,.slice d0 d1 d2])
theorem zg0 (r g o cap B0 B1 B2 f ty0 ty1:Nat) (ts:List Tk) (w:World) (res:PR Pg) (h:zf r g o cap ts w) (hE:zi ts) (hl:ZA w) (hrl:r≠1) (hp:Zp f [] [] ts=some res)
  (b0:w.heap[B0]?=some (.cells #[.func (.func 20) #[] #[]] ty0 (0,0))) (b1:w.heap[B1]?=some (.cells #[.pointer (some ⟨r,0,none⟩)] ty1 (0,0))) (b2:w.heap[B2]?=some Xq) (h1:B1≠r) (h2:B2≠r) (h3:B2≠g) (h4:B1≠B2) :
  Calls Tryz.prog 47 #[.pointer (some ⟨B0,0,none⟩),.pointer (some ⟨B1,0,none⟩),.pointer (some ⟨B2,0,none⟩)] w (ug r B2 w (yx res)):=by
 generalize hres:yx res=R;obtain ⟨t0,ak,rfl⟩:=hE.cons;have I:=zbj r g o cap f hrl _ w res hp hE h hl;have c0:w.cell? ⟨B0,0,none⟩=some (.func (.func 20) #[] #[]):=by simp only [World.cell?,b0];rfl
 have c1:w.cell? ⟨B1,0,none⟩=some (.pointer (some ⟨r,0,none⟩)):=by simp only [World.cell?,b1];rfl
 have ae:B2<w.heap.size:=(Array.getElem?_eq_some_iff.1 b2).1;have af:B1<w.heap.size:=(Array.getElem?_eq_some_iff.1 b1).1
 go_enter Tryz.func47,Tryz.ntmps47
 go_wp2_with fail
 refine I.mono ?_;clear I;rintro e w1 ⟨z,H⟩;rcases res with a | ⟨x,us⟩
 ·obtain rfl:=H
  obtain rfl:R=.error a:=by rw [←hres];rfl
  exact ⟨rfl,⟨z.os,z.tape,z.output,z.size,fun k hk hr _=>z.block k hk hr⟩,rfl⟩
 ·obtain ⟨v,o1,L,rfl,hx,aa⟩:=H
  obtain ⟨N,O,T,U,V,Q,rfl⟩:=hx.agg;have ag:=Vp f _ _ _ _ _ hp hE;obtain ⟨t1,X,rfl⟩:=ag.cons;have p1:=(z.block _ af h1).trans b1;have p2:=(z.block _ ae h2).trans b2;obtain ⟨q0,q1,qf⟩:=ZJ p2;obtain ⟨w2,G⟩:∃w2,w2=X8 w1 B2 (.slice N O T) (.slice U V Q):=⟨_,rfl⟩;have A:∀k,k≠B2→w2.heap[k]?=w1.heap[k]?:=fun k hk=>by rw [G];exact uf _ _ _ _ hk
  have J:zf r g o1 L (t1::X) w2:=aa.keep (A r (fun e=>h2 e.symm)) (A g (fun e=>h3 e.symm))
  have ab:w1.heap.size≤w2.heap.size:=by rw [G];simp
  have W:Yz w.heap.size w2 x (.agg #[.slice N O T,.slice U V Q]):=Yz.kept hx ab fun k hB _=>A k (by omega)
  have pB:w2.heap[B2]?=some (.cells #[.slice N O T,.slice U V Q] 25 (0,0)):=by rw [G];exact zcw p2 _ _
  have ai:w2.cell? ⟨B1,0,none⟩=some (.pointer (some ⟨r,0,none⟩)):=by
   have p3:=(A B1 h4).trans p1;simp only [World.cell?,p3];rfl
  have D:Hid (Y3 r B2 w w2):=⟨by rw [G];exact z.os,by rw [G];exact z.tape,by rw [G];exact z.output,Nat.le_trans z.size ab,fun k hk hr hb=>(A k hb).trans (z.block k hk hr)⟩
  have I:=zhB r g o1 L t1 X w2 J;have ad:Hid (Yz w.heap.size w2 x (.agg #[.slice N O T,.slice U V Q])):=W;have Z:Hid (w2.heap[B2]?=some (.cells #[.slice N O T,.slice U V Q] 25 (0,0))):=pB;have ah:=G.symm;have aj:=z.size;have Y:B2<w2.heap.size:=(Array.getElem?_eq_some_iff.1 pB).1;clear W pB J A hx aa p1 p2 z G
  by_cases hk:t1.k=0
  ·simp only [if_pos hk] at I
   obtain rfl:R=.ok x:=by rw [←hres];unfold yx;simp only [zC,if_pos hk]
   go_wp2_with fail
   refine I.mono ?_;clear I;rintro e w3 ⟨y,rfl⟩
   have hP:ug r B2 w (.ok x) (.returned (.tuple #[])) w3:=by
    refine ⟨⟨y.os.trans D.out.os,y.tape.trans D.out.tape,y.output.trans D.out.output,Nat.le_trans D.out.size y.size,fun k hk hr hb=>(y.block k (Nat.lt_of_lt_of_le hk D.out.size) hr).trans (D.out.block k hk hr hb)⟩,rfl,N,O,T,U,V,Q,(y.block _ Y h2).trans Z.out,?_⟩
    exact Yz.kept ad.out y.size fun k hB hlt=>y.block k hlt (by have:=h.lt.1;omega)
   have HP:Hid (ug r B2 w (.ok x) (.returned (.tuple #[])) w3):=hP;clear hP y D ad Z;go_wp2
   exact bodyPost_ret (v:=.tuple #[]) (by simp [results,Tryz.results47,go_sem]) rfl HP.out
  ·simp only [if_neg hk] at I
   obtain rfl:R=.error t1.at0:=by rw [←hres];unfold yx;simp only [zC,if_neg hk]
   go_wp2_with fail
   refine I.mono ?_;clear I;rintro e w3 ⟨y,rfl⟩;exact ⟨rfl,⟨y.os.trans D.out.os,y.tape.trans D.out.tape,y.output.trans D.out.output,Nat.le_trans D.out.size y.size,fun k hk hr hb=>(y.block k (Nat.lt_of_lt_of_le hk D.out.size) hr).trans (D.out.block k hk hr hb)⟩,rfl⟩
abbrev Xm:Ex:=.mk 0 [] 0 [] 0
def yK (l:List UInt8) (x:Ex) (at0 err:Nat):Prop :=
 if (zW l).2.2≠0 then x=Xm∧at0=(zW l).2.1∧err=(zW l).2.2 else
 ∃f res,zg f 1 (zW l).1=some res∧match yB res with
  | .error a=>x=Xm∧at0=a∧err=6
  | .ok y=>if 24<zN y then x=Xm∧at0=0∧err=7 else x=y∧at0=0∧err=0
theorem Qo (l:List UInt8):∀(f line a:Nat),(scanS l f line a).1.length≤f
 | 0,_,_=>by simp [scanS]
 | f+1,line,a=>by
  have h:=Qo l f (yd l line a) (zO l a+(zQ l a).sz);rw [scanS]
  split
  ·simp
  ·split
   ·simp
   ·split
    ·simp
    ·simp only [List.length_cons];omega
theorem vD (l:List UInt8):(zW l).1.length≤4097:=by
 unfold zW
 split
 ·simp
 ·have:=Qo l (l.length+1) 1 0
  omega
theorem zdk {w:World} {B e sz n:Nat} {v:Value} {xs:List Value} (h:w.ownsRow B e sz v n xs) (hn:1≤n):∃g o,v=.slice (some ⟨g,0,none⟩) n o∧B≤g∧g<w.heap.size∧n≤o∧o≤maxLen∧∀j u,xs[j]?=some u→w.cell? ⟨g,j,none⟩=some u:=by
 obtain ⟨g,o,rfl,D,A,J,I⟩:=zdS h hn;refine ⟨g,o,rfl,D,A,J,?_,I⟩;rcases h.2 with ⟨y,_⟩ | ⟨L,z,G,y,_,_,_,H,_⟩
 ·cases y
 ·cases y;exact H
abbrev rdW (w:World) (v:Value):World:=(w.alloc (.cells #[v] 99)).alloc (.cells #[.pointer (some ⟨w.heap.size,0,none⟩)] 55)
theorem zg1 (ts:List Tk) (g cap B0 B2 f:Nat) (w0 w2:World) (res:PR Ex) (hE:zi ts) (hlen:ts.length≤4097) (hp:zg f 1 ts=some res) (hgl:g<w2.heap.size) (hcap:ts.length≤cap) (hmax:cap≤maxLen) (hcell:∀j u,(ZD ts)[j]?=some u→w2.cell? ⟨g,j,none⟩=some u)
  (hb:Below w0.heap.size w0 w2) (hl:ZA w0) (he:xp w0) (hB0:w0.heap.size≤B0) (hB2:w0.heap.size≤B2) (hB2g:B2≠g)
  (b0:w2.heap[B0]?=some (.cells #[.func (.func 42) #[] #[]] 92 (0,0))) (b2:w2.heap[B2]?=some Zz) :
  Calls Tryz.prog 46 #[.func (.func 83) #[] #[.pointer (some ⟨B0,0,none⟩),.pointer (some ⟨w2.heap.size+1,0,none⟩),.pointer (some ⟨B2,0,none⟩)]] (rdW w2 (.slice (some ⟨g,0,none⟩) ts.length cap)) fun e w' =>
   ∃G,Below (w2.heap.size+1+1) G w'∧Y3 w2.heap.size B2 w2 G∧match yB res with
    | .error a=>e=.returned (.tuple #[.int .i64 a,.int .i64 6])
    | .ok x=>e=.returned (.tuple #[.int .i64 0,.int .i64 0])∧∃(a:Int) (b:ByteArray) (c:Int) (Y:Option Addr) (Z X:Nat) (l:Int),G.heap[B2]?=some (.cells #[.int .i64 a,.string b,.int .i64 c,.slice Y Z X,.int .i64 l] 45 (0,0))∧ZI (w2.heap.size+1+1) w' x (.agg #[.int .i64 a,.string b,.int .i64 c,.slice Y Z X,.int .i64 l]):=by
 obtain ⟨N,A,rfl⟩:=hE.cons;have hs:w0.heap.size≤w2.heap.size:=hb.size;have ag:1<w0.heap.size:=World.block_lt_of_cell? w0 _ (hl 0 _ rfl);have ae:0<w0.heap.size:=World.block_lt_of_cell? w0 _ he;have V:B0<w2.heap.size:=(Array.getElem?_eq_some_iff.1 b0).1;have O:B2<w2.heap.size:=(Array.getElem?_eq_some_iff.1 b2).1;obtain ⟨w3,y⟩:∃w3,w3=rdW w2 (.slice (some ⟨g,0,none⟩) (N::A).length cap):=⟨_,rfl⟩;have J:w3.heap.size=w2.heap.size+1+1:=by rw [y];simp
 obtain ⟨W,D⟩:∃W,W=zgF w3:=⟨_,rfl⟩;have ah:W.heap.size=w2.heap.size+1+1+1+1:=by rw [D];simp [J]
 have I:∀k,k<w3.heap.size→W.heap[k]?=w3.heap[k]?:=fun k hk=>by rw [D,Below.heap_alloc _ _ _ (by simp;omega),Below.heap_alloc _ _ _ hk]
 have ab:∀k,k<w2.heap.size→w3.heap[k]?=w2.heap[k]?:=fun k hk=>by rw [y,Below.heap_alloc _ _ _ (by simp;omega),Below.heap_alloc _ _ _ hk]
 have z:∀k,k<w2.heap.size→W.heap[k]?=w2.heap[k]?:=fun k hk=>(I k (by omega)).trans (ab k hk)
 have pr:W.heap[w2.heap.size]?=some (.cells #[.slice (some ⟨g,0,none⟩) (N::A).length cap] 99 (0,0)):=by
  rw [I _ (by omega),y,Below.heap_alloc _ _ _ (by simp)];exact World.alloc_heap_new _ _
 have p1:W.heap[w2.heap.size+1]?=some (.cells #[.pointer (some ⟨w2.heap.size,0,none⟩)] 55 (0,0)):=by
  rw [I _ (by omega),y]
  have:=World.alloc_heap_new (w2.alloc (.cells #[.slice (some ⟨g,0,none⟩) (N::A).length cap] 99)) (.cells #[.pointer (some ⟨w2.heap.size,0,none⟩)] 55)
  simpa using this
 have pa:W.heap[w3.heap.size]?=some (.cells #[.int .i64 0] 3 (0,0)):=by
  rw [D,Below.heap_alloc _ _ _ (by simp)];exact World.alloc_heap_new _ _
 have pb:W.heap[w3.heap.size+1]?=some (.cells #[.int .i64 0] 26 (0,0)):=by
  rw [D]
  have:=World.alloc_heap_new (w3.alloc (.cells #[.int .i64 0] 3)) (.cells #[.int .i64 0] 26)
  simpa using this
 have ad:zf w2.heap.size g 0 cap (N::A) W :=
  { cell:=by simp only [World.cell?,pr];rfl
    soft:=by simp only [World.frozen?,pr];simp
    hcap:=hcap
    hmax:=hmax
    other:=by omega
    toks:=fun j u hj=>by rw [Nat.zero_add,World.cell?_of_block (z g hgl)];exact hcell j u hj
    few:=by omega }
 have R:ZA W:=fun j v hj=>by
  rw [World.cell?_of_block ((z 1 (by omega)).trans (hb.block _ ag))];exact hl j v hj
 have af:=zii w2.heap.size g 0 cap B0 (w2.heap.size+1) B2 f _ _ (N::A) W res ad hE R (by omega) hp ((z _ V).trans b0) p1 ((z _ O).trans b2) (by omega) (by omega) hB2g (by omega)
 rw [←y];refine (xZ 83 #[.pointer (some ⟨B0,0,none⟩),.pointer (some ⟨w2.heap.size+1,0,none⟩),.pointer (some ⟨B2,0,none⟩)] w3 (fun w'=>Qn w2.heap.size B2 W (yB res) (.returned (.tuple #[])) w') (fun T at0 w'=>T=6∧∃a:Nat,at0=(a:Int)∧yB res=.error a∧Y3 w2.heap.size B2 W w') (fun _=>rfl) ?_).mono ?_
 ·rw [←D]
  refine af.mono fun e w' o=>⟨(o.1.block _ (by omega) (by omega) (by omega)).trans pa,(o.1.block _ (by omega) (by omega) (by omega)).trans pb,?_,?_⟩
  ·unfold xp
   rw [World.cell?_of_block ((o.1.block 0 (by omega) (by omega) (by omega)).trans ((z 0 (by omega)).trans (hb.block _ ae)))];exact he
  ·have U:=o
   unfold Qn at o
   cases H:yB res with
   | error a=>rw [H] at o;exact .inr ⟨6,a,o.2,rfl,a,rfl,rfl,o.1⟩
   | ok x=>rw [H] at o U;have:=o.2.1;subst this;exact .inl ⟨rfl,U⟩
 ·have Q:∀w',Y3 w2.heap.size B2 W w'→Y3 w2.heap.size B2 w2 w':=fun w' h=>⟨by rw [h.os,D,y];rfl,by rw [h.tape,D,y];rfl,by rw [h.output,D,y];rfl,by have:=h.size;omega,fun k hk hr hb'=>(h.block k (by omega) hr hb').trans (z k hk)⟩
  rintro e w' (⟨G,rfl,o,L,aa⟩ | ⟨T,at0,G,rfl,⟨rfl,a,rfl,H,hK⟩,L⟩)
  ·rw [J] at L
   refine ⟨G,L,Q _ o.1,?_⟩
   unfold Qn at o
   cases H:yB res with
   | error a=>rw [H] at o;exact absurd o.2 (by simp [ZG])
   | ok x =>
    rw [H] at o;obtain ⟨-,-,a,b,c,Y,Z,X,l,h1,h2⟩:=o;exact ⟨rfl,a,b,c,Y,Z,X,l,h1,ZI.mono (ZI.kept h2 L.size fun k hk _=>aa k (by omega) (by omega)) (by omega)⟩
  ·rw [J] at L
   refine ⟨G,L,Q _ hK,?_⟩;rw [H]
theorem zi3 (l:List UInt8) (w:World) (ht:yH w) (hl:ZA w) (he:xp w) :
  Calls Tryz.prog 41 #[.string (zb l),.func (.func 42) #[] #[],.func (.func 43) #[] #[]] w fun e w' =>
   ∃(x:Ex) (at0 err:Nat) (v:Value),e=.returned (.tuple #[v,.int .i64 at0,.int .i64 err])∧yK l x at0 err∧ZI w.heap.size w' x v∧Below w.heap.size w w':=by
 obtain ⟨w1,I⟩:∃w1,w1=(((w.alloc (.cells #[.func (.func 42) #[] #[]] 92)).alloc Zz).alloc Zz).alloc Zz:=⟨_,rfl⟩;have aB:w1.heap.size=w.heap.size+1+1+1+1:=by rw [I];simp
 have ai:Below w.heap.size w w1:=by
  rw [I];exact ((((Below.refl w.heap.size w).alloc (Nat.le_refl _) _).alloc (by simp) _).alloc (by simp <;> omega) _).alloc (by simp <;> omega) _
 have m0:w1.heap[w.heap.size]?=some (.cells #[.func (.func 42) #[] #[]] 92 (0,0)):=by
  rw [I,Below.heap_alloc _ _ _ (by simp <;> omega),Below.heap_alloc _ _ _ (by simp <;> omega),Below.heap_alloc _ _ _ (by simp)];exact World.alloc_heap_new _ _
 have m1:w1.heap[w.heap.size+1]?=some Zz:=by
  rw [I,Below.heap_alloc _ _ _ (by simp <;> omega),Below.heap_alloc _ _ _ (by simp)]
  have:=World.alloc_heap_new (w.alloc (.cells #[.func (.func 42) #[] #[]] 92)) Zz
  simpa using this
 have m2:w1.heap[w.heap.size+1+1]?=some Zz:=by
  rw [I,Below.heap_alloc _ _ _ (by simp)]
  have:=World.alloc_heap_new ((w.alloc (.cells #[.func (.func 42) #[] #[]] 92)).alloc Zz) Zz
  simpa using this
 have m3:w1.heap[w.heap.size+1+1+1]?=some Zz:=by
  rw [I]
  have:=World.alloc_heap_new (((w.alloc (.cells #[.func (.func 42) #[] #[]] 92)).alloc Zz).alloc Zz) Zz
  simpa using this
 have cs:=zaJ l w1 (ht.below ai (Nat.le_refl _));have ax:Hid (w1=(((w.alloc (.cells #[.func (.func 42) #[] #[]] 92)).alloc Zz).alloc Zz).alloc Zz):=I;have am:Hid (Below w.heap.size w w1):=ai;have HL:Hid (ZA w):=hl;have HE:Hid (xp w):=he;have HM:Hid (w1.heap[w.heap.size]?=some (.cells #[.func (.func 42) #[] #[]] 92 (0,0))∧w1.heap[w.heap.size+1]?=some Zz∧w1.heap[w.heap.size+1+1]?=some Zz∧w1.heap[w.heap.size+1+1+1]?=some Zz):=⟨m0,m1,m2,m3⟩;clear I ai hl he m0 m1 m2 m3 ht
 go_enter Tryz.func41,Tryz.ntmps41
 go_wp2_with fail
 rw [←ax.out];refine cs.mono ?_;clear cs ax;rintro e w2 ⟨v,rfl,Z,aa⟩;have z:∀k,k<w1.heap.size→w2.heap[k]?=w1.heap[k]?:=fun k hk=>aa.block k hk
 have p0:=(z _ (by omega)).trans HM.out.1
 have p1:=(z _ (by omega)).trans HM.out.2.1
 have p2:=(z _ (by omega)).trans HM.out.2.2.1
 have p3:=(z _ (by omega)).trans HM.out.2.2.2
 have o:Below w.heap.size w w2:=am.out.trans (aa.mono (by omega))
 have ap:Hid (Below w.heap.size w w2):=o;obtain ⟨a0,a1,a2,a3,a4,af⟩:=zU p1;obtain ⟨c0,c1,c2,c3,c4,-⟩:=zU p2;have aF:=aa.size
 by_cases herr:(zW l).2.2≠0
 ·have HI:Hid (yK l Xm (zW l).2.1 (zW l).2.2):=show yK _ _ _ _ by unfold yK;rw [if_pos herr];exact ⟨rfl,rfl,rfl⟩
  have ab:¬((zW l).2.2:Int)=0:=by omega
  generalize (zW l).2.1=A at *;generalize (zW l).2.2=E at *;have h1:((E:Int)==0)=false:=by rw [beq_eq_false_iff_ne];exact ab
  have h2:((E:Int) != 0)=true:=by simp [bne,h1]
  have h3:decide ((E:Int)=0)=false:=by rw [decide_eq_false_iff_not];exact ab
  have h4:(E==0)=false:=by rw [beq_eq_false_iff_ne];exact herr
  have h5:decide (E=0)=false:=by rw [decide_eq_false_iff_not];exact herr
  have h6:(E != 0)=true:=by simp [bne,h4]
  obtain ⟨z0,z1,z2,z3,z4⟩:=zY p1 (.int .i64 0) (.string ⟨#[]⟩) (.int .i64 0) (.slice none 0 0) (.int .i64 0)
  have au:Below w.heap.size w (set5 w2 (w.heap.size+1) (.int .i64 0) (.string ⟨#[]⟩) (.int .i64 0) (.slice none 0 0) (.int .i64 0)) :=
   ((((o.setCell (p:=⟨w.heap.size+1,0,none⟩) (by simp) _).setCell (p:=⟨w.heap.size+1,1,none⟩) (by simp) _).setCell (p:=⟨w.heap.size+1,2,none⟩) (by simp) _).setCell (p:=⟨w.heap.size+1,3,none⟩) (by simp) _).setCell (p:=⟨w.heap.size+1,4,none⟩) (by simp) _
  have N:Hid (Below w.heap.size w (set5 w2 (w.heap.size+1) (.int .i64 0) (.string ⟨#[]⟩) (.int .i64 0) (.slice none 0 0) (.int .i64 0))):=au;clear au o aa Z z p0 p1 p2 p3 HM ap HL HE am;go_wp2
  refine bodyPost_ret (v:=.tuple #[.agg #[.int .i64 0,.string ⟨#[]⟩,.int .i64 0,.slice none 0 0,.int .i64 0],.int .i64 A,.int .i64 E]) (by simp [results,Tryz.results41,go_sem,z0,z1,z2,z3,z4]) rfl ⟨Xm,A,E,_,rfl,HI.out,.leaf 0 [] 0 0,N.out⟩
 ·have ad:(zW l).2.2=0:=by simpa using herr
  have hE:=xB l ad;obtain ⟨t0,aE,av⟩:=hE.cons;obtain ⟨g,J,rfl,hg,ay,ar,ao,ae⟩:∃g J,v=.slice (some ⟨g,0,none⟩) (zW l).1.length J∧w1.heap.size≤g∧g<w2.heap.size∧(zW l).1.length≤J∧J≤maxLen∧∀j u,(ZD (zW l).1)[j]?=some u→w2.cell? ⟨g,j,none⟩=some u:=zdk Z (by rw [av];simp)
  have aq:=vD l;obtain ⟨f,res,hf,-⟩:=(XU (zW l).1.length (zW l).1 (Nat.le_refl _)).1 1;have hp:zg f 1 (zW l).1=some res:=hf 0;have ca:=zg1 (zW l).1 g J w.heap.size (w.heap.size+1+1+1) f w w2 res hE aq hp ay ar ao ae o HL.out HE.out (Nat.le_refl _) (by omega) (by omega) p0 p3
  have aD:∀(fn:Fn) (first J:Array Value) (w:World),(Instr.makeFunc fn first J).run Tryz.prog w=.ok (.func fn first J) w:=fun _ _ _ _=>rfl
  have ah:∀x us,res=.ok (x,us)→zN x≤4097:=fun x us h=>by
   subst h
   have:=(uN f).1 _ _ _ _ hp
   omega
  have HI:Hid (∀x at0 err,(match yB res with | .error a=>x=Xm∧at0=a∧err=6 | .ok y=>if 24<zN y then x=Xm∧at0=0∧err=7 else x=y∧at0=0∧err=0)→yK l x at0 err):=fun x at0 err h=>by
   unfold yK
   rw [if_neg herr];exact ⟨f,res,hp,h⟩
  have Q:Hid (∀k,k≤w.heap.size+1+1→∀Y G,Below (w2.heap.size+1+1) Y G→Y3 w2.heap.size (w.heap.size+1+1+1) w2 Y→G.heap[k]?=w2.heap[k]?):=fun k hk Y G h5 h6 =>
   (h5.block k (by omega)).trans (h6.block k (by omega) (by omega) (by omega))
  have an:Hid (∀Y G,Below (w2.heap.size+1+1) Y G→Y3 w2.heap.size (w.heap.size+1+1+1) w2 Y→Below w.heap.size w G):=fun Y G h5 h6 =>
   ⟨h5.os.trans (h6.os.trans o.os),h5.tape.trans (h6.tape.trans o.tape),h5.output.trans (h6.output.trans o.output),by have:=h5.size;have:=h6.size;have:=o.size;omega,fun k hk=>(h5.block k (by omega)).trans ((h6.block k (by omega) (by omega) (by omega)).trans (o.block k hk))⟩
  have ag:Hid (w2.heap[w.heap.size+1]?=some Zz∧w2.heap[w.heap.size+1+1]?=some Zz):=⟨p1,p2⟩;rw [ad];generalize (zW l).2.1=A at *;clear o aa Z z p0 p1 p2 p3 HM ap HL HE am ae hp hf hE av a0 a1 a2 a3 a4 af c0 c1 c2 c3 c4;go_wp2_with fail
  refine ca.mono ?_;clear ca;rintro e G ⟨Y,O,X,H⟩;have q1:=(Q.out (w.heap.size+1) (by omega) Y G O X).trans ag.out.1
  have q2:=(Q.out (w.heap.size+1+1) (by omega) Y G O X).trans ag.out.2
  have U:=an.out Y G O X;obtain ⟨a0,a1,a2,a3,a4,af⟩:=zU q1;obtain ⟨c0,c1,c2,c3,c4,-⟩:=zU q2
  have T:∀W,Below w.heap.size w W→∀v0 v1 v2 v3 v4,Below w.heap.size w (set5 W (w.heap.size+1) v0 v1 v2 v3 v4):=fun W hW v0 v1 v2 v3 v4 =>
   ((((hW.setCell (p:=⟨w.heap.size+1,0,none⟩) (by simp) _).setCell (p:=⟨w.heap.size+1,1,none⟩) (by simp) _).setCell (p:=⟨w.heap.size+1,2,none⟩) (by simp) _).setCell (p:=⟨w.heap.size+1,3,none⟩) (by simp) _).setCell (p:=⟨w.heap.size+1,4,none⟩) (by simp) _
  cases hR:yB res with
  | error a =>
   rw [hR] at H;obtain rfl:=H;have V:Hid (yK l Xm a 6):=HI.out Xm a 6 (by rw [hR];exact ⟨rfl,rfl,rfl⟩)
   obtain ⟨z0,z1,z2,z3,z4⟩:=zY q1 (.int .i64 0) (.string ⟨#[]⟩) (.int .i64 0) (.slice none 0 0) (.int .i64 0);have N:Hid (Below w.heap.size w (set5 G (w.heap.size+1) (.int .i64 0) (.string ⟨#[]⟩) (.int .i64 0) (.slice none 0 0) (.int .i64 0))):=T G U _ _ _ _ _;clear T U q1 q2 O X HI Q an ag;go_wp2
   refine bodyPost_ret (v:=.tuple #[.agg #[.int .i64 0,.string ⟨#[]⟩,.int .i64 0,.slice none 0 0,.int .i64 0],.int .i64 a,.int .i64 6]) (by simp [results,Tryz.results41,go_sem,z0,z1,z2,z3,z4]) rfl ⟨Xm,a,6,_,rfl,V.out,.leaf 0 [] 0 0,N.out⟩
  | ok x =>
   rw [hR] at H;obtain ⟨rfl,xa,xb,xc,x0,x1,x2,xl,aw,hx⟩:=H
   have aA:zN x≤4097:=by
    rcases res with a | ⟨y,us⟩
    ·cases hR
    ·unfold yB at hR
     simp only at hR
     split at hR
     ·cases hR;exact ah _ us rfl
     ·cases hR
   have aC:=O.size;have aG:=X.size;have qx:=(O.block (w.heap.size+1+1+1) (by omega)).trans aw
   obtain ⟨e0,e1,e2,e3,e4,-⟩:=zU qx;have cd:=vS (fun k=>w2.heap.size+1+1≤k) (zN x) G x _ G (Nat.le_refl _) (by omega) (Below.refl _ _) hx
   have HX:Hid (ZI (w2.heap.size+1+1) G x (.agg #[.int .i64 xa,.string xb,.int .i64 xc,.slice x0 x1 x2,.int .i64 xl])):=hx;have HQ:Hid (G.heap[w.heap.size+1]?=some Zz∧G.heap[w.heap.size+1+1]?=some Zz∧G.heap[w.heap.size+1+1+1]?=some (.cells #[.int .i64 xa,.string xb,.int .i64 xc,.slice x0 x1 x2,.int .i64 xl] 45 (0,0))):=⟨q1,q2,qx⟩;have aj:Hid (Below w.heap.size w G):=U;have HS:Hid (∀W,Below w.heap.size w W→∀v0 v1 v2 v3 v4,Below w.heap.size w (set5 W (w.heap.size+1) v0 v1 v2 v3 v4)):=T;have V:Hid (∀y at0 err,(if 24<zN x then y=Xm∧at0=0∧err=7 else y=x∧at0=0∧err=0)→yK l y at0 err):=fun y at0 err h=>HI.out y at0 err (by rw [hR];exact h)
   generalize hD:zN x=D at *;clear T U q1 q2 qx O X HI Q an ag hx aw ah;go_wp2_with fail
   refine cd.mono ?_;clear cd a0 a1 a2 a3 a4 af c0 c1 c2 c3 c4 e0 e1 e2 e3 e4;rintro e w7 ⟨rfl,L⟩;have r1:=(L.block _ (by omega)).trans HQ.out.1
   have r2:=(L.block _ (by omega)).trans HQ.out.2.1
   have r3:=(L.block _ (by omega)).trans HQ.out.2.2
   have R:Below w.heap.size w w7:=aj.out.trans (L.mono (by omega))
   have al:ZI (w2.heap.size+1+1) w7 x (.agg #[.int .i64 xa,.string xb,.int .i64 xc,.slice x0 x1 x2,.int .i64 xl]):=ZI.kept HX.out L.size fun k _ hlt=>L.block k hlt
   obtain ⟨a0,a1,a2,a3,a4,af⟩:=zU r1
   by_cases hdeep:24<D
   ·obtain ⟨c0,c1,c2,c3,c4,-⟩:=zU r2
    obtain ⟨z0,z1,z2,z3,z4⟩:=zY r1 (.int .i64 0) (.string ⟨#[]⟩) (.int .i64 0) (.slice none 0 0) (.int .i64 0);have ak:Hid (yK l Xm 0 7):=V.out Xm 0 7 (by rw [if_pos hdeep];exact ⟨rfl,rfl,rfl⟩)
    have N:Hid (Below w.heap.size w (set5 w7 (w.heap.size+1) (.int .i64 0) (.string ⟨#[]⟩) (.int .i64 0) (.slice none 0 0) (.int .i64 0))):=HS.out w7 R _ _ _ _ _;have h1:(24:Int)<(D:Int):=by omega
    clear R al r1 r2 r3 L HQ HX aj HS V;go_wp2
    refine bodyPost_ret (v:=.tuple #[.agg #[.int .i64 0,.string ⟨#[]⟩,.int .i64 0,.slice none 0 0,.int .i64 0],.int .i64 0,.int .i64 7]) (by simp [results,Tryz.results41,go_sem,z0,z1,z2,z3,z4]) rfl ⟨Xm,0,7,_,rfl,ak.out,.leaf 0 [] 0 0,N.out⟩
   ·obtain ⟨c0,c1,c2,c3,c4,-⟩:=zU r3
    obtain ⟨z0,z1,z2,z3,z4⟩:=zY r1 (.int .i64 xa) (.string xb) (.int .i64 xc) (.slice x0 x1 x2) (.int .i64 xl);have ak:Hid (yK l x 0 0):=V.out x 0 0 (by rw [if_neg hdeep];exact ⟨rfl,rfl,rfl⟩)
    have N:Hid (Below w.heap.size w (set5 w7 (w.heap.size+1) (.int .i64 xa) (.string xb) (.int .i64 xc) (.slice x0 x1 x2) (.int .i64 xl))):=HS.out w7 R _ _ _ _ _;have az:Hid (ZI w.heap.size (set5 w7 (w.heap.size+1) (.int .i64 xa) (.string xb) (.int .i64 xc) (.slice x0 x1 x2) (.int .i64 xl)) x (.agg #[.int .i64 xa,.string xb,.int .i64 xc,.slice x0 x1 x2,.int .i64 xl])):=ZI.mono (ZI.kept al (w':=set5 w7 (w.heap.size+1) (.int .i64 xa) (.string xb) (.int .i64 xc) (.slice x0 x1 x2) (.int .i64 xl)) (by simp) fun k hk _=>zr _ _ _ _ _ _ _ (by omega)) (by omega)
    have h1:¬(24:Int)<(D:Int):=by omega
    clear R al r1 r2 r3 L HQ HX aj HS V;go_wp2
    refine bodyPost_ret (v:=.tuple #[.agg #[.int .i64 xa,.string xb,.int .i64 xc,.slice x0 x1 x2,.int .i64 xl],.int .i64 0,.int .i64 0]) (by simp [results,Tryz.results41,go_sem,z0,z1,z2,z3,z4]) rfl ⟨x,0,0,_,rfl,ak.out,az.out,N.out⟩
mutual
def YY:Ex→Nat
 | .mk _ _ _ kids _=>1+yR kids
def yR:List Ex→Nat
 | []=>0
 | x::xs=>YY x+yR xs
end
theorem uO (a b:List Ex):yR (a++b)=yR a+yR b:=by
 induction a with
 | nil=>simp [yR]
 | cons x xs ih=>simp [yR,ih,Nat.add_assoc]
theorem zef (f:Nat) :
  (∀least ts x us,zg f least ts=some (.ok (x,us))→YY x+us.length≤ts.length)∧(∀least e ts x us T,Zs f least e ts=some (.ok (x,us))→YY e+ts.length≤T→YY x+us.length≤T) ∧
  (∀ts x us,Zm f ts=some (.ok (x,us))→YY x+us.length≤ts.length)∧(∀e ts x us T,zx f e ts=some (.ok (x,us))→YY e+ts.length≤T→YY x+us.length≤T)∧(∀ts x us,zH f ts=some (.ok (x,us))→YY x+us.length≤ts.length) ∧
  (∀pre ts l us T,Z1 f pre ts=some (.ok (l,us))→yR pre+ts.length≤T→yR l+us.length≤T)∧(∀ts l us,zG f ts=some (.ok (l,us))→yR l+us.length+1≤ts.length):=by
 induction f with
 | zero=>refine ⟨?_,?_,?_,?_,?_,?_,?_⟩ <;> intros <;> simp_all [zg,Zs,Zm,zx,zH,Z1,zG]
 | succ f ih =>
  obtain ⟨N,V,W,O,Z,U,X⟩:=ih;refine ⟨fun least ts x us h=>?_,fun least e ts x us T h hT=>?_,fun ts x us h=>?_,fun e ts x us T h hT=>?_,fun ts x us h=>?_,fun pre ts l us T h hT=>?_,fun ts l us h=>?_⟩
  ·rw [zg] at h
   split at h
   ·exact W _ _ _ h
   ·obtain ⟨y,G,A,o⟩:=za h
    exact V _ _ _ _ _ _ o (N _ _ _ _ A)
  ·rw [Zs] at h
   split at h
   ·rename_i D
    obtain ⟨y,G,A,o⟩:=za h;have a:=N _ _ _ _ A;have b:=YF (ts:=ts) (by omega)
    have d:1≤YY y:=by cases y;simp [YY]
    refine V _ _ _ _ _ _ o ?_;simp only [YY,yR];omega
   ·obtain ⟨rfl,rfl⟩:=zq h;exact hT
  ·rw [Zm] at h
   split at h
   ·rename_i D
    obtain ⟨y,G,A,o⟩:=za h;have a:=W _ _ _ A;have b:=YF (ts:=ts) (by omega)
    obtain ⟨rfl,rfl⟩:=zq o;simp only [YY,yR];omega
   ·obtain ⟨y,G,A,o⟩:=za h
    exact O _ _ _ _ _ o (Z _ _ _ A)
  ·rw [zx] at h
   split at h
   ·rename_i D
    obtain ⟨y,G,A,o⟩:=za h;obtain ⟨z,H,J,I⟩:=za o;have a:=N _ _ _ _ A;have b:=Zc D;have c:=z7 J;have d:1≤YY y:=by cases y;simp [YY]
    refine O _ _ _ _ _ I ?_;simp only [YY,yR];omega
   ·split at h
    ·rename_i D
     obtain ⟨y,G,A,o⟩:=za h;have b:=Zc D;have c:=yG A;refine O _ _ _ _ _ o ?_;simp only [YY,yR];omega
    ·obtain ⟨rfl,rfl⟩:=zq h;exact hT
  ·rw [zH] at h
   split at h
   ·rename_i D
    have b:=YF (ts:=ts) (by omega)
    obtain ⟨rfl,rfl⟩:=zq h;simp only [YY,yR];omega
   ·split at h
    ·rename_i D
     have b:=YF (ts:=ts) (by omega)
     obtain ⟨rfl,rfl⟩:=zq h;simp only [YY,yR];omega
    ·split at h
     ·rename_i D
      have b:=YF (ts:=ts) (by omega)
      split at h
      ·obtain ⟨y,G,A,o⟩:=za h
       have a:=X _ _ _ A;obtain ⟨rfl,rfl⟩:=zq o;simp only [YY];omega
      ·obtain ⟨rfl,rfl⟩:=zq h
       simp only [YY,yR];omega
     ·split at h
      ·rename_i D
       have b:=Zc D;obtain ⟨rfl,rfl⟩:=zq h;simp only [YY,yR];omega
      ·split at h
       ·rename_i D
        have b:=Zc D;obtain ⟨rfl,rfl⟩:=zq h;simp only [YY,yR];omega
       ·split at h
        ·rename_i D
         have b:=Zc D;obtain ⟨s,G,A,o⟩:=za h;obtain ⟨y,H,J,I⟩:=za o;have a:=X _ _ _ J;have c:=yG A;obtain ⟨rfl,rfl⟩:=zq I;simp only [YY];omega
        ·split at h
         ·rename_i D
          have b:=Zc D;obtain ⟨y,G,A,o⟩:=za h;obtain ⟨z,H,J,I⟩:=za o;have a:=U _ _ _ _ _ A (Nat.le_refl _);have c:=z7 J;obtain ⟨rfl,rfl⟩:=zq I;simp only [YY,yR] at a ⊢;omega
         ·obtain ⟨z,G,A,o⟩:=za h
          obtain ⟨y,H,J,I⟩:=za o;obtain ⟨Y,L,Q,R⟩:=za I;have a:=N _ _ _ _ J;have b:=z7 A;have c:=z7 Q;obtain ⟨rfl,rfl⟩:=zq R;omega
  ·rw [Z1] at h
   obtain ⟨y,G,A,o⟩:=za h;have a:=N _ _ _ _ A
   split at o
   ·rename_i D
    have b:=Zc D;refine U _ _ _ _ _ o ?_;rw [uO];simp only [yR];omega
   ·obtain ⟨rfl,rfl⟩:=zq o
    rw [uO];simp only [yR];omega
  ·rw [zG] at h
   obtain ⟨z,G,A,o⟩:=za h;have b:=z7 A
   split at o
   ·rename_i D
    have c:=Zc D;obtain ⟨rfl,rfl⟩:=zq o;simp only [yR];omega
   ·obtain ⟨y,H,J,I⟩:=za o
    obtain ⟨Y,L,Q,R⟩:=za I;have a:=U _ _ _ _ _ J (Nat.le_refl _);have c:=z7 Q;obtain ⟨rfl,rfl⟩:=zq R;simp only [yR] at a;omega
end Go.Proofs.YtcphojjpapgblaaGreatDoor
