import Derived.Test.YtpejpbbdgblbeaaGreatDoorMC17
import Derived.Test.YtpejpbbdgblbeaaGreatDoorSProg
import Derived.Test.YtpejpbbdgblbeaaGreatDoorShelf
import Derived.Test.YtpejpbbdgblbeaaGreatDoorMC20
import Derived.Test.YtpejpbbdgblbeaaGreatDoorMC15
namespace Go.Proofs.YtpejpbbdgblbeaaGreatDoor
open Go.RowKit Go.Shelf
set_option maxHeartbeats 16000000
set_option maxRecDepth 100000
theorem zb9 (c:UInt8) (n:Nat) (w:World) (hn:n≤1099511627776):Calls Tryz.prog 135 #[.string ⟨#[c]⟩,.int .i64 n] w fun e w'=>e=.returned (.string (zb (List.replicate n c)))∧Below w.heap.size w w':=by
 have h:=Tryz.strings_Repeat ⟨#[c]⟩ n w (by omega) (by show 1*n≤_;omega)
 refine h.mono fun e w' h9=>⟨?_,h9.2⟩
 rw [h9.1];have e:=Lib.repeatL_replicate c 1 n;rw [show List.replicate 1 c=[c] from rfl,Nat.mul_one] at e
 show Ending.returned (.string ⟨(Lib.repeatL [c] n).toArray⟩)=_
 rw [e]
theorem VO (r g o cap:Nat) (ts:List Tk) (w:World) (hE:zi ts) (h:zg r g o cap ts w):Calls Tryz.prog 99 #[.pointer (some ⟨r,0,none⟩)] w (zaP r g w (ZB 0 ts)) :=
 zhL r g o cap ts w h hE hE.names zb9
theorem zdS (r g o cap:Nat) (ts:List Tk) (w:World) (hE:zi ts) (h:zg r g o cap ts w):Calls Tryz.prog 97 #[.pointer (some ⟨r,0,none⟩)] w (zaQ r g w (Z8 ts)) :=
 zgt r g o cap ts w h hE fun us w1 o1 cap1 _ hE1 h1=>VO r g o1 cap1 us w1 hE1 h1
theorem UM (r g o cap F:Nat) (ts:List Tk) (w:World) (res:PR (List Pm)) (hp:zN F [] ts=some res) (hE:zi ts) (h:zg r g o cap ts w) :
  Calls Tryz.prog 96 #[.pointer (some ⟨r,0,none⟩),.func (.func 97) #[.pointer (some ⟨r,0,none⟩)] #[]] w (zaR r g w res) :=
 ze2 r g o cap F ts w res h hE (Yz hp) fun w1 o1 cap1 ts1 hE1 h1 _=>zdS r g o1 cap1 ts1 w1 hE1 h1
theorem zff (r g o cap F:Nat) (ts:List Tk) (w:World) (R:PR (List Pm)) (hp:yo F ts=some R) (hE:zi ts) (h:zg r g o cap ts w) :
  Calls Tryz.prog 98 #[.pointer (some ⟨r,0,none⟩),.func (.func 97) #[.pointer (some ⟨r,0,none⟩)] #[]] w (zcY r g w R):=by
 obtain ⟨t,y,rfl⟩:=hE.cons
 unfold yo zR at hp
 simp only [zE,List.tail_cons] at hp
 by_cases h1:zm t [40]=true
 ·have z:=hE.tail (zj h1)
  simp only [if_pos h1,zh] at hp
  by_cases h2:zm (zv y) [41]=true
  ·simp only [if_pos h2,Option.some.injEq] at hp
   have e:R=Yo t y (.error 0):=by unfold Yo;rw [if_pos h1,if_pos h2];exact hp.symm
   rw [e];exact XZ r g o cap _ t y w (.error 0) h hE (fun _ _ e=>by cases e) fun _ h9=>absurd h2 (by rw [h9];decide)
  ·simp only [if_neg h2] at hp
   cases h3:zN F [] y with
   | none=>rw [h3] at hp;cases hp
   | some r3 =>
    rw [h3] at hp
    have e:R=Yo t y r3:=by
     unfold Yo
     rw [if_pos h1,if_neg h2];rcases r3 with a | ⟨l,A⟩
     ·simp only [Option.some.injEq] at hp
      exact hp.symm
     ·simp only at hp ⊢
      by_cases h4:zm (zv A) [41]=true
      ·simp only [if_pos h4,Option.some.injEq] at hp ⊢
       exact hp.symm
      ·simp only [if_neg h4,Option.some.injEq] at hp ⊢
       exact hp.symm
    rw [e];exact XZ r g o cap _ t y w r3 h hE (fun l A e=>by subst e;exact Ya h3 z) fun _ _ w1 o1 cap1 hR hK=>UM r g o1 cap1 F y w1 r3 h3 z hR
 ·simp only [if_neg h1,zh,Option.some.injEq] at hp
  have e:R=Yo t y (.error 0):=by unfold Yo;rw [if_neg h1];exact hp.symm
  rw [e];exact XZ r g o cap _ t y w (.error 0) h hE (fun _ _ e=>by cases e) fun h9=>absurd h9 h1
theorem za6 (r g o cap F:Nat) (hrl:r≠1) (ts:List Tk) (w:World) (res:PR Pg) (hp:Zm F [] [] ts=some res) (hE:zi ts) (h:zg r g o cap ts w) (hl:ZC w) :
  Calls Tryz.prog 22 #[.pointer (some ⟨r,0,none⟩)] w (zfe r g w res) :=
 zdR r g o cap F ts w res h hE hp
  (fun w1 o1 cap1 ts1 r1 line hb hE1 hR _=>QV r g o1 cap1 line F ts1 w1 r1 hR hE1 hb fun w2 o2 cap2 ts2 r2 hb2 hE2 hR2 _=>UM r g o2 cap2 F ts2 w2 r2 hb2 hE2 hR2)
  (fun w1 o1 cap1 ts1 r1 line hb hE1 hR hK=>zh5 r g o1 cap1 line F ts1 w1 r1 hR hE1 hb (fun w2 o2 cap2 ts2 r2 hb2 hE2 hR2 _=>zff r g o2 cap2 F ts2 w2 r2 hb2 hE2 hR2) (fun w2 o2 cap2 ts2 hE2 hR2 _=>VO r g o2 cap2 ts2 w2 hE2 hR2) (fun w2 o2 cap2 ts2 r2 hb2 hE2 hR2 hK2=>(zh4 r g hrl F).block w2 o2 cap2 ts2 r2 hb2 hE2 hR2 (hl.kept (hK.trans hK2) hrl)))
theorem z7 {s:List UInt8} {ts us:List Tk} {y:Unit} (h:zR s ts=some (.ok (y,us))):us.length+1=ts.length:=by
 unfold zR at h
 split at h
 ·rename_i o
  simp only [Option.some.injEq,Except.ok.injEq,Prod.mk.injEq] at h;rw [←h.2];exact Zf o
 ·simp at h
theorem yH {s:List UInt8} {ts us:List Tk} (h:Z3 ts=some (.ok (s,us))):us.length+1=ts.length:=by
 unfold Z3 at h
 split at h
 ·rename_i o
  simp only [Option.some.injEq,Except.ok.injEq,Prod.mk.injEq] at h;rw [←h.2];exact YF (by omega)
 ·simp at h
theorem zk {α:Type} {x y:α} {ts us:List Tk} (h:(some (.ok (x,ts)):Option (PR α))=some (.ok (y,us))):x=y∧ts=us:=by
 simpa using h
theorem uI (f:Nat) :
  (∀least ts x us,zf f least ts=some (.ok (x,us))→zO x+us.length≤ts.length)∧(∀least e ts x us T,Zp f least e ts=some (.ok (x,us))→zO e+ts.length≤T→zO x+us.length≤T) ∧
  (∀ts x us,Zg f ts=some (.ok (x,us))→zO x+us.length≤ts.length)∧(∀e ts x us T,zw f e ts=some (.ok (x,us))→zO e+ts.length≤T→zO x+us.length≤T)∧(∀ts x us,zC f ts=some (.ok (x,us))→zO x+us.length≤ts.length) ∧
  (∀pre ts l us T,ZY f pre ts=some (.ok (l,us))→depthL pre+ts.length≤T→depthL l+us.length≤T)∧(∀ts l us,zA f ts=some (.ok (l,us))→depthL l+us.length+1≤ts.length):=by
 induction f with
 | zero=>refine ⟨?_,?_,?_,?_,?_,?_,?_⟩ <;> intros <;> simp_all [zf,Zp,Zg,zw,zC,ZY,zA]
 | succ f ih =>
  obtain ⟨N,W,V,R,i5,O,Y⟩:=ih;refine ⟨fun least ts x us h=>?_,fun least e ts x us T h hT=>?_,fun ts x us h=>?_,fun e ts x us T h hT=>?_,fun ts x us h=>?_,fun pre ts l us T h hT=>?_,fun ts l us h=>?_⟩
  ·rw [zf] at h
   split at h
   ·exact V _ _ _ h
   ·obtain ⟨y,G,A,o⟩:=za h
    exact W _ _ _ _ _ _ o (N _ _ _ _ A)
  ·rw [Zp] at h
   split at h
   ·rename_i D
    obtain ⟨y,G,A,o⟩:=za h;have a:=N _ _ _ _ A;have b:=YF (ts:=ts) (by omega)
    have d:1≤zO y:=by cases y;simp [zO]
    refine W _ _ _ _ _ _ o ?_;simp only [zO,depthL];omega
   ·obtain ⟨rfl,rfl⟩:=zk h;exact hT
  ·rw [Zg] at h
   split at h
   ·rename_i D
    obtain ⟨y,G,A,o⟩:=za h;have a:=V _ _ _ A;have b:=YF (ts:=ts) (by omega)
    obtain ⟨rfl,rfl⟩:=zk o;simp only [zO,depthL];omega
   ·obtain ⟨y,G,A,o⟩:=za h
    exact R _ _ _ _ _ o (i5 _ _ _ A)
  ·rw [zw] at h
   split at h
   ·rename_i D
    obtain ⟨y,G,A,o⟩:=za h;obtain ⟨z,H,J,I⟩:=za o;have a:=N _ _ _ _ A;have b:=Zf D;have c:=z7 J;have d:1≤zO y:=by cases y;simp [zO]
    refine R _ _ _ _ _ I ?_;simp only [zO,depthL];omega
   ·split at h
    ·rename_i D
     obtain ⟨y,G,A,o⟩:=za h;have b:=Zf D;have c:=yH A;refine R _ _ _ _ _ o ?_;simp only [zO,depthL];omega
    ·obtain ⟨rfl,rfl⟩:=zk h;exact hT
  ·rw [zC] at h
   split at h
   ·rename_i D
    have b:=YF (ts:=ts) (by omega)
    obtain ⟨rfl,rfl⟩:=zk h;simp only [zO,depthL];omega
   ·split at h
    ·rename_i D
     have b:=YF (ts:=ts) (by omega)
     obtain ⟨rfl,rfl⟩:=zk h;simp only [zO,depthL];omega
    ·split at h
     ·rename_i D
      have b:=YF (ts:=ts) (by omega)
      split at h
      ·obtain ⟨y,G,A,o⟩:=za h
       have a:=Y _ _ _ A;obtain ⟨rfl,rfl⟩:=zk o;simp only [zO];omega
      ·obtain ⟨rfl,rfl⟩:=zk h
       simp only [zO,depthL];omega
     ·split at h
      ·rename_i D
       have b:=Zf D;obtain ⟨rfl,rfl⟩:=zk h;simp only [zO,depthL];omega
      ·split at h
       ·rename_i D
        have b:=Zf D;obtain ⟨rfl,rfl⟩:=zk h;simp only [zO,depthL];omega
       ·split at h
        ·rename_i D
         have b:=Zf D;obtain ⟨s,G,A,o⟩:=za h;obtain ⟨y,H,J,I⟩:=za o;have a:=Y _ _ _ J;have c:=yH A;obtain ⟨rfl,rfl⟩:=zk I;simp only [zO];omega
        ·split at h
         ·rename_i D
          have b:=Zf D;obtain ⟨y,G,A,o⟩:=za h;obtain ⟨z,H,J,I⟩:=za o;have a:=O _ _ _ _ _ A (Nat.le_refl _);have c:=z7 J;obtain ⟨rfl,rfl⟩:=zk I;simp only [zO,depthL] at a ⊢;omega
         ·obtain ⟨z,G,A,o⟩:=za h
          obtain ⟨y,H,J,I⟩:=za o;obtain ⟨Z,L,U,Q⟩:=za I;have a:=N _ _ _ _ J;have b:=z7 A;have c:=z7 U;obtain ⟨rfl,rfl⟩:=zk Q;omega
  ·rw [ZY] at h
   obtain ⟨y,G,A,o⟩:=za h;have a:=N _ _ _ _ A
   split at o
   ·rename_i D
    have b:=Zf D;refine O _ _ _ _ _ o ?_;rw [YQ];simp only [depthL];omega
   ·obtain ⟨rfl,rfl⟩:=zk o
    rw [YQ];simp only [depthL];omega
  ·rw [zA] at h
   obtain ⟨z,G,A,o⟩:=za h;have b:=z7 A
   split at o
   ·rename_i D
    have c:=Zf D;obtain ⟨rfl,rfl⟩:=zk o;simp only [depthL];omega
   ·obtain ⟨y,H,J,I⟩:=za o
    obtain ⟨Z,L,U,Q⟩:=za I;have a:=O _ _ _ _ _ J (Nat.le_refl _);have c:=z7 U;obtain ⟨rfl,rfl⟩:=zk Q;simp only [depthL] at a;omega
theorem UO:∀(f:Nat) (m:List UInt8) (a:Nat) (r:List UInt8),(Zq f m a r).k≠1
 | 0,_,_,_=>by simp [Zq]
 | _+1,_,_,[]=>by simp [Zq]
 | f+1,m,a,x::r=>by
  unfold Zq
  split
  ·simp
  ·split
   ·simp
   ·split
    ·simp
    ·exact UO f _ _ _
theorem zdT (l:List UInt8) (h:(Zc l).k=1):(Zc l).s.length≤20:=by
 unfold Zc at h ⊢
 cases l with
 | nil=>simp at h
 | cons x r =>
  simp only at h ⊢
  split at h
  ·rename_i o
   rw [if_pos o]
   unfold Yd at h ⊢
   split at h
   ·simp at h
   ·rename_i z
    rw [if_neg z]
    split at h
    ·simp at h
    ·rename_i y
     rw [if_neg y];simp only;omega
  ·rename_i o
   rw [if_neg o]
   split at h
   ·unfold XX at h
    split at h <;> simp at h
   ·rename_i hd
    rw [if_neg hd]
    split at h
    ·exact absurd h (UO _ _ _ _)
    ·unfold Yu at h
     split at h <;> simp at h
theorem zca (l:List UInt8) (line a:Nat):NmT (tkT l line a):=fun h=>by
 have:=zdT _ (show (Zc (l.drop (a+Z4 (l.drop a)))).k=1 from h)
 have e:(tkT l line a).s=(Zc (l.drop (a+Z4 (l.drop a)))).s:=rfl;rw [e];omega
theorem zcb (l:List UInt8):∀(f line a:Nat),a≤l.length→l.length<a+f→(scanS l f line a).2.2=0→zi (scanS l f line a).1:=by
 intro f
 induction f with
 | zero=>intro line a H I;omega
 | succ f ih =>
  intro line a H I h;rw [scanS] at h ⊢
  split at h
  ·rename_i z;exact absurd h z
  ·rename_i z
   rw [if_neg z];have D:(zQ l a).e=0:=by simpa using z
   split at h
   ·rename_i o
    rw [if_pos o];exact o
   ·rename_i o
    rw [if_neg o]
    split at h
    ·rename_i y;exact absurd h y
    ·rename_i y
     rw [if_neg y];have J:=YG H D o;have A:=ih (yj l line a) (zP l a+(zQ l a).sz) J.2 (by omega) (by simpa using y)
     obtain ⟨t,ts,G⟩:=A.cons;simp only [G] at A ⊢;exact ⟨o,zca l line a,A⟩
theorem XG (l:List UInt8) (h:(zW l).2.2=0):zi (zW l).1:=by
 unfold zW at h ⊢
 split at h
 ·simp at h
 ·rename_i o
  rw [if_neg o];exact zcb l _ _ _ (Nat.zero_le _) (by omega) h
theorem zcc (f:Nat) :
  (∀ts x us,Ze f ts=some (.ok (x,us))→Zo x+us.length≤ts.length)∧(∀ts l us,zH f ts=some (.ok (l,us))→depthSs l+us.length+1≤ts.length)∧(∀pre ts l us T,Zd f pre ts=some (.ok (l,us))→depthSs pre+ts.length≤T→depthSs l+us.length≤T):=by
 induction f with
 | zero=>refine ⟨?_,?_,?_⟩ <;> intros <;> simp_all [Ze,zH,Zd]
 | succ f ih =>
  obtain ⟨W,O,R⟩:=ih;have H:=(uI f).1;refine ⟨fun ts x us h=>?_,fun ts l us h=>?_,fun pre ts l us T h hT=>?_⟩
  ·rw [Ze] at h
   split at h
   ·rename_i z
    obtain ⟨_,_,o,h⟩:=za h;obtain ⟨_,_,A,h⟩:=za h;obtain ⟨_,_,I,h⟩:=za h;obtain ⟨_,_,V,h⟩:=za h;have L:=Zf z;have D:=yH o;have G:=z7 A;have Q:=H _ _ _ _ I;have U:=z7 V;obtain ⟨rfl,rfl⟩:=zk h;simp only [Zo,depthSs,depthL];omega
   ·split at h
    ·rename_i z
     obtain ⟨_,_,o,h⟩:=za h;obtain ⟨_,_,A,h⟩:=za h;have L:=Zf z;have D:=H _ _ _ _ o;have G:=O _ _ _ A
     split at h
     ·rename_i z
      obtain ⟨_,_,I,h⟩:=za h;have Q:=Zf z;have U:=O _ _ _ I;obtain ⟨rfl,rfl⟩:=zk h;simp only [Zo,depthL];omega
     ·obtain ⟨rfl,rfl⟩:=zk h
      simp only [Zo,depthSs,depthL];omega
    ·split at h
     ·rename_i z
      obtain ⟨_,_,o,h⟩:=za h;obtain ⟨_,_,A,h⟩:=za h;have L:=Zf z;have D:=H _ _ _ _ o;have G:=O _ _ _ A;obtain ⟨rfl,rfl⟩:=zk h;simp only [Zo,depthSs,depthL];omega
     ·split at h
      ·rename_i z
       have L:=Zf z
       split at h
       ·rename_i N
        have D:=Zf N;obtain ⟨rfl,rfl⟩:=zk h;simp only [Zo,depthSs,depthL];omega
       ·obtain ⟨_,_,o,h⟩:=za h
        obtain ⟨_,_,A,h⟩:=za h;have D:=H _ _ _ _ o;have G:=z7 A;obtain ⟨rfl,rfl⟩:=zk h;simp only [Zo,depthSs,depthL];omega
      ·obtain ⟨_,_,o,h⟩:=za h
       have D:=H _ _ _ _ o
       split at h
       ·rename_i z
        have G:=Zf z
        split at h
        ·obtain ⟨_,_,A,h⟩:=za h
         obtain ⟨_,_,I,h⟩:=za h;have Q:=H _ _ _ _ A;have U:=z7 I;obtain ⟨rfl,rfl⟩:=zk h;simp only [Zo,depthSs,depthL];omega
        ·simp at h
       ·obtain ⟨_,_,A,h⟩:=za h
        have G:=z7 A;obtain ⟨rfl,rfl⟩:=zk h;simp only [Zo,depthSs,depthL];omega
  ·rw [zH] at h
   obtain ⟨_,J,o,h⟩:=za h;have D:=z7 o;have G:=R _ _ _ _ J.length h (by simp [depthSs])
   omega
  ·rw [Zd] at h
   split at h
   ·rename_i z
    have L:=Zf z;obtain ⟨rfl,rfl⟩:=zk h;omega
   ·obtain ⟨y,J,o,h⟩:=za h
    have D:=W _ _ _ o;refine R _ _ _ _ T h ?_;rw [xB];simp only [depthSs];omega
theorem za7 {f:Nat} {ts us:List Tk} {l:List Pm} (h:zN f [] ts=some (.ok (l,us))) (hE:zi ts):us.length<ts.length:=by
 have o:=hE.pos;obtain ⟨z,D,A,y⟩:=XF ts.length ts (Nat.le_refl _) hE []
 have a:∀k,zN (f+k) [] ts=some (.ok (l,us)):=by
  intro k
  induction k with
  | zero=>exact h
  | succ k ih=>exact Yz ih
 have b:=A f;have a:=a z;rw [Nat.add_comm] at a;have e:=Option.some.inj (a.symm.trans b)
 have:=(y l us e.symm).1
 omega
theorem ug {f:Nat} {ts us:List Tk} {l:List Pm} (h:yo f ts=some (.ok (l,us))) (hE:zi ts):us.length≤ts.length:=by
 unfold yo at h
 obtain ⟨_,D,y,h⟩:=za h;have L:=z7 y;have o:=zY y hE
 split at h
 ·rename_i I
  have H:=Zf I;obtain ⟨rfl,rfl⟩:=zk h;omega
 ·obtain ⟨_,J,z,h⟩:=za h
  obtain ⟨_,G,A,h⟩:=za h;have H:=za7 z o;have N:=z7 A;obtain ⟨rfl,rfl⟩:=zk h;omega
theorem za8 {ts us:List Tk} {s:List UInt8} (h:xK ts=some (.ok (s,us))) (hE:zi ts):us.length≤ts.length:=by
 unfold xK at h
 split at h
 ·rename_i o
  have y:=Zf o
  have:=(YI _ _ _ _ (Option.some.inj h) (zD hE o)).2
  omega
 ·obtain ⟨rfl,rfl⟩:=zk h
  omega
theorem zcd {f line:Nat} {ts us:List Tk} {x:Fc} (h:ZX f line ts=some (.ok (x,us))) (hE:zi ts):depthSs x.body+us.length≤ts.length:=by
 unfold ZX at h
 obtain ⟨_,I,A,h⟩:=za h;obtain ⟨_,L,z,h⟩:=za h;obtain ⟨_,J,D,h⟩:=za h;obtain ⟨b,G,H,h⟩:=za h;have o:=ZM A hE;have y:=xy z o;have N:=yH A;have Q:=ug z o;have O:=za8 D y;have R:=(zcc f).2.1 _ _ _ H;obtain ⟨rfl,rfl⟩:=zk h;simp only;omega
theorem Vq (T:Nat):∀(f:Nat) (rs:List Rc) (fs:List Fc) (ts us:List Tk) (p:Pg),Zm f rs fs ts=some (.ok (p,us))→zi ts→depthFs fs+ts.length≤T→depthFs p.funs+us.length≤T
 | 0,_,_,_,_,_,h,_,_=>by simp [Zm] at h
 | f+1,rs,fs,ts,us,p,h,hE,hT=>by
  rw [Zm] at h
  split at h
  ·obtain ⟨rfl,rfl⟩:=zk h
   exact hT
  ·split at h
   ·rename_i z
    have G:=Zf z;have o:=zD hE z;obtain ⟨x,A,y,h⟩:=za h;have D:=vh y o;exact Vq T f _ _ _ _ _ h (Yy y o) (by omega)
   ·split at h
    ·rename_i z
     have G:=Zf z;have o:=zD hE z;obtain ⟨x,A,y,h⟩:=za h;have D:=zcd y o;refine Vq T f _ _ _ _ _ h (xz y o) ?_;rw [xC];simp only [depthFs];omega
    ·simp at h
abbrev Yl (B:Nat) (w:World) (p:Pg) (v:Value):Prop:=xL (fun k=>B≤k) w p v
theorem Yl.kept {B:Nat} {w w':World} {p:Pg} {v:Value} (h:Yl B w p v) (hs:w.heap.size≤w'.heap.size) (hb:∀k,B≤k→k<w.heap.size→w'.heap[k]?=w.heap[k]?):Yl B w' p v:=xL.kept h hs hb
theorem Yl.mono {B B':Nat} {w:World} {p:Pg} {v:Value} (h:Yl B w p v) (hb:B'≤B):Yl B' w p v:=xL.wide h fun k hk=>by omega
abbrev YA:Pg:=⟨[],[]⟩
theorem zfg (B:Nat) (w:World):Yl B w YA (.agg #[.slice none 0 0,.slice none 0 0]):=(yY.nil B w).pg
abbrev vk (w:World) (N:Nat) (a b:Value):World:=(w.setCell ⟨N,0,none⟩ a).setCell ⟨N,1,none⟩ b
theorem xD {w:World} {N:Nat} {x0 x1:Value} {ty:TypeId} (h:w.heap[N]?=some (.cells #[x0,x1] ty (0,0))) (a b:Value) :
  (vk w N a b).cell? ⟨N,0,none⟩=some a∧(vk w N a b).cell? ⟨N,1,none⟩=some b:=by
 obtain ⟨o,y,-⟩:=ZA h;exact ⟨(World.cell?_setCell_other _ _ _ _ (by simp)).trans (World.cell?_setCell_same _ _ _ o),World.cell?_setCell_same _ _ _ ((World.cell?_setCell_other _ _ _ _ (by simp)).trans y)⟩
theorem uh (w:World) (N:Nat) (a b:Value) {k:Nat} (hk:k≠N):(vk w N a b).heap[k]?=w.heap[k]?:=by
 rw [Below.heap_setCell _ _ _ _ (by simpa using hk),Below.heap_setCell _ _ _ _ (by simpa using hk)]
theorem zce {w:World} {N:Nat} {x0 x1:Value} {ty:TypeId} (h:w.heap[N]?=some (.cells #[x0,x1] ty (0,0))) (a b:Value):(vk w N a b).heap[N]?=some (.cells #[a,b] ty (0,0)) :=
 zq b (zq a h)
theorem Vr:∀(f:Nat) (rs:List Rc) (fs:List Fc) (ts us:List Tk) (p:Pg),Zm f rs fs ts=some (.ok (p,us))→zi ts→zi us
 | 0,_,_,_,_,_,h,_=>by simp [Zm] at h
 | f+1,rs,fs,ts,us,p,h,hE=>by
  rw [Zm] at h
  split at h
  ·obtain ⟨rfl,rfl⟩:=zk h
   exact hE
  ·split at h
   ·rename_i z
    obtain ⟨x,o,y,h⟩:=za h;exact Vr f _ _ _ _ _ h (Yy y (zD hE z))
   ·split at h
    ·rename_i z
     obtain ⟨x,o,y,h⟩:=za h;exact Vr f _ _ _ _ _ h (xz y (zD hE z))
    ·simp at h
def yi (res:PR Pg):Except Nat Pg :=
 match res with
 | .error a=>.error a
 | .ok (x,us)=>if (zv us).k=0 then .ok x else .error (zv us).at0
def ui (r B2:Nat) (w:World) (res:Except Nat Pg) (e:Ending) (w':World):Prop :=
 Y5 r B2 w w'∧match res with
  | .error a=>e=ZI a
  | .ok x=>e=.returned (.tuple #[])∧∃(s0:Option Addr) (s1 s2:Nat) (d0:Option Addr) (d1 d2:Nat),w'.heap[B2]?=some (.cells #[.slice s0 s1 s2,.slice d0 d1 d2] 25 (0,0))∧Yl w.heap.size w' x (.agg #[.slice s0 s1 s2,.slice d0 d1 d2])
theorem zgK (r g o cap B0 B1 B2 f ty0 ty1:Nat) (ts:List Tk) (w:World) (res:PR Pg) (h:zg r g o cap ts w) (hE:zi ts) (hl:ZC w) (hrl:r≠1) (hp:Zm f [] [] ts=some res)
  (b0:w.heap[B0]?=some (.cells #[.func (.func 22) #[] #[]] ty0 (0,0))) (b1:w.heap[B1]?=some (.cells #[.pointer (some ⟨r,0,none⟩)] ty1 (0,0))) (b2:w.heap[B2]?=some Xq) (h1:B1≠r) (h2:B2≠r) (h3:B2≠g) (h4:B1≠B2) :
  Calls Tryz.prog 49 #[.pointer (some ⟨B0,0,none⟩),.pointer (some ⟨B1,0,none⟩),.pointer (some ⟨B2,0,none⟩)] w (ui r B2 w (yi res)):=by
 generalize hres:yi res=R;obtain ⟨t0,al,rfl⟩:=hE.cons;have I:=za6 r g o cap f hrl _ w res hp hE h hl;have c0:w.cell? ⟨B0,0,none⟩=some (.func (.func 22) #[] #[]):=by simp only [World.cell?,b0];rfl
 have c1:w.cell? ⟨B1,0,none⟩=some (.pointer (some ⟨r,0,none⟩)):=by simp only [World.cell?,b1];rfl
 have af:B2<w.heap.size:=(Array.getElem?_eq_some_iff.1 b2).1;have ag:B1<w.heap.size:=(Array.getElem?_eq_some_iff.1 b1).1
 go_enter Tryz.func49,Tryz.ntmps49
 go_wp2_with fail
 refine I.mono ?_;clear I;rintro e w1 ⟨z,H⟩;rcases res with a | ⟨x,us⟩
 ·obtain rfl:=H
  obtain rfl:R=.error a:=by rw [←hres];rfl
  exact ⟨rfl,⟨z.os,z.tape,z.output,z.size,fun k hk hr _=>z.block k hk hr⟩,rfl⟩
 ·obtain ⟨v,o1,J,rfl,hx,ae⟩:=H
  obtain ⟨V,T,N,U,O,Q,rfl⟩:=hx.agg;have ah:=Vr f _ _ _ _ _ hp hE;obtain ⟨t1,aa,rfl⟩:=ah.cons;have p1:=(z.block _ ag h1).trans b1;have p2:=(z.block _ af h2).trans b2;obtain ⟨q0,q1,qf⟩:=ZA p2;obtain ⟨w2,G⟩:∃w2,w2=vk w1 B2 (.slice V T N) (.slice U O Q):=⟨_,rfl⟩;have A:∀k,k≠B2→w2.heap[k]?=w1.heap[k]?:=fun k hk=>by rw [G];exact uh _ _ _ _ hk
  have L:zg r g o1 J (t1::aa) w2:=ae.keep (A r (fun e=>h2 e.symm)) (A g (fun e=>h3 e.symm))
  have Z:w1.heap.size≤w2.heap.size:=by rw [G];simp
  have ad:Yl w.heap.size w2 x (.agg #[.slice V T N,.slice U O Q]):=Yl.kept hx Z fun k hB _=>A k (by omega)
  have pB:w2.heap[B2]?=some (.cells #[.slice V T N,.slice U O Q] 25 (0,0)):=by rw [G];exact zce p2 _ _
  have aj:w2.cell? ⟨B1,0,none⟩=some (.pointer (some ⟨r,0,none⟩)):=by
   have p3:=(A B1 h4).trans p1;simp only [World.cell?,p3];rfl
  have D:Hid (Y5 r B2 w w2):=⟨by rw [G];exact z.os,by rw [G];exact z.tape,by rw [G];exact z.output,Nat.le_trans z.size Z,fun k hk hr hb=>(A k hb).trans (z.block k hk hr)⟩
  have I:=zhn r g o1 J t1 aa w2 L;have Y:Hid (Yl w.heap.size w2 x (.agg #[.slice V T N,.slice U O Q])):=ad;have W:Hid (w2.heap[B2]?=some (.cells #[.slice V T N,.slice U O Q] 25 (0,0))):=pB;have ai:=G.symm;have ak:=z.size;have ab:B2<w2.heap.size:=(Array.getElem?_eq_some_iff.1 pB).1;clear ad pB L A hx ae p1 p2 z G
  by_cases hk:t1.k=0
  ·simp only [if_pos hk] at I
   obtain rfl:R=.ok x:=by rw [←hres];unfold yi;simp only [zE,if_pos hk]
   go_wp2_with fail
   refine I.mono ?_;clear I;rintro e w3 ⟨y,rfl⟩
   have hP:ui r B2 w (.ok x) (.returned (.tuple #[])) w3:=by
    refine ⟨⟨y.os.trans D.out.os,y.tape.trans D.out.tape,y.output.trans D.out.output,Nat.le_trans D.out.size y.size,fun k hk hr hb=>(y.block k (Nat.lt_of_lt_of_le hk D.out.size) hr).trans (D.out.block k hk hr hb)⟩,rfl,V,T,N,U,O,Q,(y.block _ ab h2).trans W.out,?_⟩
    exact Yl.kept Y.out y.size fun k hB hlt=>y.block k hlt (by have:=h.lt.1;omega)
   have HP:Hid (ui r B2 w (.ok x) (.returned (.tuple #[])) w3):=hP;clear hP y D Y W;go_wp2
   exact bodyPost_ret (v:=.tuple #[]) (by simp [results,Tryz.results49,go_sem]) rfl HP.out
  ·simp only [if_neg hk] at I
   obtain rfl:R=.error t1.at0:=by rw [←hres];unfold yi;simp only [zE,if_neg hk]
   go_wp2_with fail
   refine I.mono ?_;clear I;rintro e w3 ⟨y,rfl⟩;exact ⟨rfl,⟨y.os.trans D.out.os,y.tape.trans D.out.tape,y.output.trans D.out.output,Nat.le_trans D.out.size y.size,fun k hk hr hb=>(y.block k (Nat.lt_of_lt_of_le hk D.out.size) hr).trans (D.out.block k hk hr hb)⟩,rfl⟩
mutual
def YW:Ex→Nat
 | .mk _ _ _ kids _=>1+yR kids
def yR:List Ex→Nat
 | []=>0
 | x::xs=>YW x+yR xs
end
theorem uJ (a b:List Ex):yR (a++b)=yR a+yR b:=by
 induction a with
 | nil=>simp [yR]
 | cons x xs ih=>simp [yR,ih,Nat.add_assoc]
theorem zdU (f:Nat) :
  (∀least ts x us,zf f least ts=some (.ok (x,us))→YW x+us.length≤ts.length)∧(∀least e ts x us T,Zp f least e ts=some (.ok (x,us))→YW e+ts.length≤T→YW x+us.length≤T) ∧
  (∀ts x us,Zg f ts=some (.ok (x,us))→YW x+us.length≤ts.length)∧(∀e ts x us T,zw f e ts=some (.ok (x,us))→YW e+ts.length≤T→YW x+us.length≤T)∧(∀ts x us,zC f ts=some (.ok (x,us))→YW x+us.length≤ts.length) ∧
  (∀pre ts l us T,ZY f pre ts=some (.ok (l,us))→yR pre+ts.length≤T→yR l+us.length≤T)∧(∀ts l us,zA f ts=some (.ok (l,us))→yR l+us.length+1≤ts.length):=by
 induction f with
 | zero=>refine ⟨?_,?_,?_,?_,?_,?_,?_⟩ <;> intros <;> simp_all [zf,Zp,Zg,zw,zC,ZY,zA]
 | succ f ih =>
  obtain ⟨N,W,V,R,i5,O,Y⟩:=ih;refine ⟨fun least ts x us h=>?_,fun least e ts x us T h hT=>?_,fun ts x us h=>?_,fun e ts x us T h hT=>?_,fun ts x us h=>?_,fun pre ts l us T h hT=>?_,fun ts l us h=>?_⟩
  ·rw [zf] at h
   split at h
   ·exact V _ _ _ h
   ·obtain ⟨y,G,A,o⟩:=za h
    exact W _ _ _ _ _ _ o (N _ _ _ _ A)
  ·rw [Zp] at h
   split at h
   ·rename_i D
    obtain ⟨y,G,A,o⟩:=za h;have a:=N _ _ _ _ A;have b:=YF (ts:=ts) (by omega)
    have d:1≤YW y:=by cases y;simp [YW]
    refine W _ _ _ _ _ _ o ?_;simp only [YW,yR];omega
   ·obtain ⟨rfl,rfl⟩:=zk h;exact hT
  ·rw [Zg] at h
   split at h
   ·rename_i D
    obtain ⟨y,G,A,o⟩:=za h;have a:=V _ _ _ A;have b:=YF (ts:=ts) (by omega)
    obtain ⟨rfl,rfl⟩:=zk o;simp only [YW,yR];omega
   ·obtain ⟨y,G,A,o⟩:=za h
    exact R _ _ _ _ _ o (i5 _ _ _ A)
  ·rw [zw] at h
   split at h
   ·rename_i D
    obtain ⟨y,G,A,o⟩:=za h;obtain ⟨z,H,J,I⟩:=za o;have a:=N _ _ _ _ A;have b:=Zf D;have c:=z7 J;have d:1≤YW y:=by cases y;simp [YW]
    refine R _ _ _ _ _ I ?_;simp only [YW,yR];omega
   ·split at h
    ·rename_i D
     obtain ⟨y,G,A,o⟩:=za h;have b:=Zf D;have c:=yH A;refine R _ _ _ _ _ o ?_;simp only [YW,yR];omega
    ·obtain ⟨rfl,rfl⟩:=zk h;exact hT
  ·rw [zC] at h
   split at h
   ·rename_i D
    have b:=YF (ts:=ts) (by omega)
    obtain ⟨rfl,rfl⟩:=zk h;simp only [YW,yR];omega
   ·split at h
    ·rename_i D
     have b:=YF (ts:=ts) (by omega)
     obtain ⟨rfl,rfl⟩:=zk h;simp only [YW,yR];omega
    ·split at h
     ·rename_i D
      have b:=YF (ts:=ts) (by omega)
      split at h
      ·obtain ⟨y,G,A,o⟩:=za h
       have a:=Y _ _ _ A;obtain ⟨rfl,rfl⟩:=zk o;simp only [YW];omega
      ·obtain ⟨rfl,rfl⟩:=zk h
       simp only [YW,yR];omega
     ·split at h
      ·rename_i D
       have b:=Zf D;obtain ⟨rfl,rfl⟩:=zk h;simp only [YW,yR];omega
      ·split at h
       ·rename_i D
        have b:=Zf D;obtain ⟨rfl,rfl⟩:=zk h;simp only [YW,yR];omega
       ·split at h
        ·rename_i D
         have b:=Zf D;obtain ⟨s,G,A,o⟩:=za h;obtain ⟨y,H,J,I⟩:=za o;have a:=Y _ _ _ J;have c:=yH A;obtain ⟨rfl,rfl⟩:=zk I;simp only [YW];omega
        ·split at h
         ·rename_i D
          have b:=Zf D;obtain ⟨y,G,A,o⟩:=za h;obtain ⟨z,H,J,I⟩:=za o;have a:=O _ _ _ _ _ A (Nat.le_refl _);have c:=z7 J;obtain ⟨rfl,rfl⟩:=zk I;simp only [YW,yR] at a ⊢;omega
         ·obtain ⟨z,G,A,o⟩:=za h
          obtain ⟨y,H,J,I⟩:=za o;obtain ⟨Z,L,U,Q⟩:=za I;have a:=N _ _ _ _ J;have b:=z7 A;have c:=z7 U;obtain ⟨rfl,rfl⟩:=zk Q;omega
  ·rw [ZY] at h
   obtain ⟨y,G,A,o⟩:=za h;have a:=N _ _ _ _ A
   split at o
   ·rename_i D
    have b:=Zf D;refine O _ _ _ _ _ o ?_;rw [uJ];simp only [yR];omega
   ·obtain ⟨rfl,rfl⟩:=zk o
    rw [uJ];simp only [yR];omega
  ·rw [zA] at h
   obtain ⟨z,G,A,o⟩:=za h;have b:=z7 A
   split at o
   ·rename_i D
    have c:=Zf D;obtain ⟨rfl,rfl⟩:=zk o;simp only [yR];omega
   ·obtain ⟨y,H,J,I⟩:=za o
    obtain ⟨Z,L,U,Q⟩:=za I;have a:=O _ _ _ _ _ J (Nat.le_refl _);have c:=z7 U;obtain ⟨rfl,rfl⟩:=zk Q;simp only [yR] at a;omega
end Go.Proofs.YtpejpbbdgblbeaaGreatDoor
