import Derived.Test.YtmbofhpmockmbaaGreatDoorMC31
import Derived.Test.YtmbofhpmockmbaaGreatDoorMC19
namespace Go.Proofs.YtmbofhpmockmbaaGreatDoor
open Go.RowKit Go.Shelf
theorem ZZ {s:List UInt8} {ts us:List Tk} {y:Unit} (h:Zf s ts=some (.ok (y,us))):us.length+1=ts.length:=by
 unfold Zf at h
 split at h
 ·rename_i o
  simp only [Option.some.injEq,Except.ok.injEq,Prod.mk.injEq] at h;rw [←h.2];exact ZP o
 ·simp at h
theorem xC {s:List UInt8} {ts us:List Tk} (h:yY ts=some (.ok (s,us))):us.length+1=ts.length:=by
 unfold yY at h
 split at h
 ·rename_i o
  simp only [Option.some.injEq,Except.ok.injEq,Prod.mk.injEq] at h;rw [←h.2];exact yg (by omega)
 ·simp at h
theorem Zr {α:Type} {x y:α} {ts us:List Tk} (h:(some (.ok (x,ts)):Option (PR α))=some (.ok (y,us))):x=y∧ts=us:=by
 simpa using h
theorem XI (f:Nat) :
  (∀least ts x us,zd f least ts=some (.ok (x,us))→zn x+us.length≤ts.length)∧(∀least e ts x us T,zR f least e ts=some (.ok (x,us))→zn e+ts.length≤T→zn x+us.length≤T) ∧
  (∀ts x us,zT f ts=some (.ok (x,us))→zn x+us.length≤ts.length)∧(∀e ts x us T,zm f e ts=some (.ok (x,us))→zn e+ts.length≤T→zn x+us.length≤T)∧(∀ts x us,zu f ts=some (.ok (x,us))→zn x+us.length≤ts.length) ∧
  (∀pre ts l us T,ZE f pre ts=some (.ok (l,us))→depthL pre+ts.length≤T→depthL l+us.length≤T)∧(∀ts l us,zv f ts=some (.ok (l,us))→depthL l+us.length+1≤ts.length):=by
 induction f with
 | zero=>refine ⟨?_,?_,?_,?_,?_,?_,?_⟩ <;> intros <;> simp_all [zd,zR,zT,zm,zu,ZE,zv]
 | succ f ih =>
  obtain ⟨i1,R,O,M,U,L,Q⟩:=ih;refine ⟨fun least ts x us h=>?_,fun least e ts x us T h hT=>?_,fun ts x us h=>?_,fun e ts x us T h hT=>?_,fun ts x us h=>?_,fun pre ts l us T h hT=>?_,fun ts l us h=>?_⟩
  ·rw [zd] at h
   split at h
   ·exact O _ _ _ h
   ·obtain ⟨y,E,A,o⟩:=zk h
    exact R _ _ _ _ _ _ o (i1 _ _ _ _ A)
  ·rw [zR] at h
   split at h
   ·rename_i D
    obtain ⟨y,E,A,o⟩:=zk h;have a:=i1 _ _ _ _ A;have b:=yg (ts:=ts) (by omega)
    have d:1≤zn y:=by cases y;simp [zn]
    refine R _ _ _ _ _ _ o ?_;simp only [zn,depthL];omega
   ·obtain ⟨rfl,rfl⟩:=Zr h;exact hT
  ·rw [zT] at h
   split at h
   ·rename_i D
    obtain ⟨y,E,A,o⟩:=zk h;have a:=O _ _ _ A;have b:=yg (ts:=ts) (by omega)
    obtain ⟨rfl,rfl⟩:=Zr o;simp only [zn,depthL];omega
   ·obtain ⟨y,E,A,o⟩:=zk h
    exact M _ _ _ _ _ o (U _ _ _ A)
  ·rw [zm] at h
   split at h
   ·rename_i D
    obtain ⟨y,E,A,o⟩:=zk h;obtain ⟨z,I,H,G⟩:=zk o;have a:=i1 _ _ _ _ A;have b:=ZP D;have c:=ZZ H;have d:1≤zn y:=by cases y;simp [zn]
    refine M _ _ _ _ _ G ?_;simp only [zn,depthL];omega
   ·split at h
    ·rename_i D
     obtain ⟨y,E,A,o⟩:=zk h;have b:=ZP D;have c:=xC A;refine M _ _ _ _ _ o ?_;simp only [zn,depthL];omega
    ·obtain ⟨rfl,rfl⟩:=Zr h;exact hT
  ·rw [zu] at h
   split at h
   ·rename_i D
    have b:=yg (ts:=ts) (by omega)
    obtain ⟨rfl,rfl⟩:=Zr h;simp only [zn,depthL];omega
   ·split at h
    ·rename_i D
     have b:=yg (ts:=ts) (by omega)
     obtain ⟨rfl,rfl⟩:=Zr h;simp only [zn,depthL];omega
    ·split at h
     ·rename_i D
      have b:=yg (ts:=ts) (by omega)
      split at h
      ·obtain ⟨y,E,A,o⟩:=zk h
       have a:=Q _ _ _ A;obtain ⟨rfl,rfl⟩:=Zr o;simp only [zn];omega
      ·obtain ⟨rfl,rfl⟩:=Zr h
       simp only [zn,depthL];omega
     ·split at h
      ·rename_i D
       have b:=ZP D;obtain ⟨rfl,rfl⟩:=Zr h;simp only [zn,depthL];omega
      ·split at h
       ·rename_i D
        have b:=ZP D;obtain ⟨rfl,rfl⟩:=Zr h;simp only [zn,depthL];omega
       ·split at h
        ·rename_i D
         have b:=ZP D;obtain ⟨s,E,A,o⟩:=zk h;obtain ⟨y,I,H,G⟩:=zk o;have a:=Q _ _ _ H;have c:=xC A;obtain ⟨rfl,rfl⟩:=Zr G;simp only [zn];omega
        ·split at h
         ·rename_i D
          have b:=ZP D;obtain ⟨y,E,A,o⟩:=zk h;obtain ⟨z,I,H,G⟩:=zk o;have a:=L _ _ _ _ _ A (Nat.le_refl _);have c:=ZZ H;obtain ⟨rfl,rfl⟩:=Zr G;simp only [zn,depthL] at a ⊢;omega
         ·obtain ⟨z,E,A,o⟩:=zk h
          obtain ⟨y,I,H,G⟩:=zk o;obtain ⟨S,J,N,K⟩:=zk G;have a:=i1 _ _ _ _ H;have b:=ZZ A;have c:=ZZ N;obtain ⟨rfl,rfl⟩:=Zr K;omega
  ·rw [ZE] at h
   obtain ⟨y,E,A,o⟩:=zk h;have a:=i1 _ _ _ _ A
   split at o
   ·rename_i D
    have b:=ZP D;refine L _ _ _ _ _ o ?_;rw [ZI];simp only [depthL];omega
   ·obtain ⟨rfl,rfl⟩:=Zr o
    rw [ZI];simp only [depthL];omega
  ·rw [zv] at h
   obtain ⟨z,E,A,o⟩:=zk h;have b:=ZZ A
   split at o
   ·rename_i D
    have c:=ZP D;obtain ⟨rfl,rfl⟩:=Zr o;simp only [depthL];omega
   ·obtain ⟨y,I,H,G⟩:=zk o
    obtain ⟨S,J,N,K⟩:=zk G;have a:=L _ _ _ _ _ H (Nat.le_refl _);have c:=ZZ N;obtain ⟨rfl,rfl⟩:=Zr K;simp only [depthL] at a;omega
theorem YV:∀(f:Nat) (m:List UInt8) (a:Nat) (r:List UInt8),(z7 f m a r).k≠1
 | 0,_,_,_=>by simp [z7]
 | _+1,_,_,[]=>by simp [z7]
 | f+1,m,a,x::r=>by
  unfold z7
  split
  ·simp
  ·split
   ·simp
   ·split
    ·simp
    ·exact YV f _ _ _
theorem Vv (l:List UInt8) (h:(Zw l).k=1):(Zw l).s.length≤20:=by
 unfold Zw at h ⊢
 cases l with
 | nil=>simp at h
 | cons x r =>
  simp only at h ⊢
  split at h
  ·rename_i o
   rw [if_pos o]
   unfold ye at h ⊢
   split at h
   ·simp at h
   ·rename_i y
    rw [if_neg y]
    split at h
    ·simp at h
    ·rename_i z
     rw [if_neg z];simp only;omega
  ·rename_i o
   rw [if_neg o]
   split at h
   ·unfold YI at h
    split at h <;> simp at h
   ·rename_i A
    rw [if_neg A]
    split at h
    ·exact absurd h (YV _ _ _ _)
    ·unfold yE at h
     split at h <;> simp at h
theorem vf (l:List UInt8) (line a:Nat):UV (tkT l line a):=fun h=>by
 have:=Vv _ (show (Zw (l.drop (a+ZR (l.drop a)))).k=1 from h)
 have e:(tkT l line a).s=(Zw (l.drop (a+ZR (l.drop a)))).s:=rfl;rw [e];omega
theorem vg (l:List UInt8):∀(f line a:Nat),a≤l.length→l.length<a+f→(Zi l f line a).2.2=0→zi (Zi l f line a).1:=by
 intro f
 induction f with
 | zero=>intro line a G I;omega
 | succ f ih =>
  intro line a G I h;rw [Zi] at h ⊢
  split at h
  ·rename_i z;exact absurd h z
  ·rename_i z
   rw [if_neg z];have A:(zt l a).e=0:=by simpa using z
   split at h
   ·rename_i o
    rw [if_pos o];exact o
   ·rename_i o
    rw [if_neg o]
    split at h
    ·rename_i y;exact absurd h y
    ·rename_i y
     rw [if_neg y];have H:=yp G A o;have D:=ih (Zx l line a) (zD l a+(zt l a).sz) H.2 (by omega) (by simpa using y)
     obtain ⟨t,ts,E⟩:=D.cons;simp only [E] at D ⊢;exact ⟨o,vf l line a,D⟩
theorem vh (l:List UInt8) (h:(zJ l).2.2=0):zi (zJ l).1:=by
 unfold zJ at h ⊢
 split at h
 ·simp at h
 ·rename_i o
  rw [if_neg o];exact vg l _ _ _ (Nat.zero_le _) (by omega) h
end Go.Proofs.YtmbofhpmockmbaaGreatDoor
