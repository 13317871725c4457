import Derived.Test.YtmbofhpmockmbaaGreatDoorMC35
import Derived.Test.YtmbofhpmockmbaaGreatDoorMC23
namespace Go.Proofs.YtmbofhpmockmbaaGreatDoor
open Go.RowKit Go.Shelf
theorem ye {s:List UInt8} {ts us:List Tk} {y:Unit} (h:Zr s ts=some (.ok (y,us))):us.length+1=ts.length:=by
 unfold Zr at h
 split at h
 ·rename_i o
  simp only [Option.some.injEq,Except.ok.injEq,Prod.mk.injEq] at h;rw [←h.2];exact Z3 o
 ·simp at h
theorem Xx {s:List UInt8} {ts us:List Tk} (h:YB ts=some (.ok (s,us))):us.length+1=ts.length:=by
 unfold YB at h
 split at h
 ·rename_i o
  simp only [Option.some.injEq,Except.ok.injEq,Prod.mk.injEq] at h;rw [←h.2];exact yA (by omega)
 ·simp at h
theorem ZC {α:Type} {x y:α} {ts us:List Tk} (h:(some (.ok (x,ts)):Option (PR α))=some (.ok (y,us))):x=y∧ts=us:=by
 simpa using h
theorem vJ (f:Nat) :
  (∀least ts x us,zd f least ts=some (.ok (x,us))→zo x+us.length≤ts.length)∧(∀least e ts x us T,z7 f least e ts=some (.ok (x,us))→zo e+ts.length≤T→zo x+us.length≤T) ∧
  (∀ts x us,Zc f ts=some (.ok (x,us))→zo x+us.length≤ts.length)∧(∀e ts x us T,zn f e ts=some (.ok (x,us))→zo e+ts.length≤T→zo x+us.length≤T)∧(∀ts x us,zx f ts=some (.ok (x,us))→zo x+us.length≤ts.length) ∧
  (∀pre ts l us T,ZQ f pre ts=some (.ok (l,us))→depthL pre+ts.length≤T→depthL l+us.length≤T)∧(∀ts l us,zy f ts=some (.ok (l,us))→depthL l+us.length+1≤ts.length):=by
 induction f with
 | zero=>refine ⟨?_,?_,?_,?_,?_,?_,?_⟩ <;> intros <;> simp_all [zd,z7,Zc,zn,zx,ZQ,zy]
 | succ f ih =>
  obtain ⟨i1,i2,R,K,V,L,Q⟩:=ih;refine ⟨fun least ts x us h=>?_,fun least e ts x us T h hT=>?_,fun ts x us h=>?_,fun e ts x us T h hT=>?_,fun ts x us h=>?_,fun pre ts l us T h hT=>?_,fun ts l us h=>?_⟩
  ·rw [zd] at h
   split at h
   ·exact R _ _ _ h
   ·obtain ⟨y,E,A,o⟩:=zm h
    exact i2 _ _ _ _ _ _ o (i1 _ _ _ _ A)
  ·rw [z7] at h
   split at h
   ·rename_i D
    obtain ⟨y,E,A,o⟩:=zm h;have a:=i1 _ _ _ _ A;have b:=yA (ts:=ts) (by omega)
    have d:1≤zo y:=by cases y;simp [zo]
    refine i2 _ _ _ _ _ _ o ?_;simp only [zo,depthL];omega
   ·obtain ⟨rfl,rfl⟩:=ZC h;exact hT
  ·rw [Zc] at h
   split at h
   ·rename_i D
    obtain ⟨y,E,A,o⟩:=zm h;have a:=R _ _ _ A;have b:=yA (ts:=ts) (by omega)
    obtain ⟨rfl,rfl⟩:=ZC o;simp only [zo,depthL];omega
   ·obtain ⟨y,E,A,o⟩:=zm h
    exact K _ _ _ _ _ o (V _ _ _ A)
  ·rw [zn] at h
   split at h
   ·rename_i D
    obtain ⟨y,E,A,o⟩:=zm h;obtain ⟨z,G,H,I⟩:=zm o;have a:=i1 _ _ _ _ A;have b:=Z3 D;have c:=ye H;have d:1≤zo y:=by cases y;simp [zo]
    refine K _ _ _ _ _ I ?_;simp only [zo,depthL];omega
   ·split at h
    ·rename_i D
     obtain ⟨y,E,A,o⟩:=zm h;have b:=Z3 D;have c:=Xx A;refine K _ _ _ _ _ o ?_;simp only [zo,depthL];omega
    ·obtain ⟨rfl,rfl⟩:=ZC h;exact hT
  ·rw [zx] at h
   split at h
   ·rename_i D
    have b:=yA (ts:=ts) (by omega)
    obtain ⟨rfl,rfl⟩:=ZC h;simp only [zo,depthL];omega
   ·split at h
    ·rename_i D
     have b:=yA (ts:=ts) (by omega)
     obtain ⟨rfl,rfl⟩:=ZC h;simp only [zo,depthL];omega
    ·split at h
     ·rename_i D
      have b:=yA (ts:=ts) (by omega)
      split at h
      ·obtain ⟨y,E,A,o⟩:=zm h
       have a:=Q _ _ _ A;obtain ⟨rfl,rfl⟩:=ZC o;simp only [zo];omega
      ·obtain ⟨rfl,rfl⟩:=ZC h
       simp only [zo,depthL];omega
     ·split at h
      ·rename_i D
       have b:=Z3 D;obtain ⟨rfl,rfl⟩:=ZC h;simp only [zo,depthL];omega
      ·split at h
       ·rename_i D
        have b:=Z3 D;obtain ⟨rfl,rfl⟩:=ZC h;simp only [zo,depthL];omega
       ·split at h
        ·rename_i D
         have b:=Z3 D;obtain ⟨s,E,A,o⟩:=zm h;obtain ⟨y,G,H,I⟩:=zm o;have a:=Q _ _ _ H;have c:=Xx A;obtain ⟨rfl,rfl⟩:=ZC I;simp only [zo];omega
        ·split at h
         ·rename_i D
          have b:=Z3 D;obtain ⟨y,E,A,o⟩:=zm h;obtain ⟨z,G,H,I⟩:=zm o;have a:=L _ _ _ _ _ A (Nat.le_refl _);have c:=ye H;obtain ⟨rfl,rfl⟩:=ZC I;simp only [zo,depthL] at a ⊢;omega
         ·obtain ⟨z,E,A,o⟩:=zm h
          obtain ⟨y,G,H,I⟩:=zm o;obtain ⟨U,J,M,O⟩:=zm I;have a:=i1 _ _ _ _ H;have b:=ye A;have c:=ye M;obtain ⟨rfl,rfl⟩:=ZC O;omega
  ·rw [ZQ] at h
   obtain ⟨y,E,A,o⟩:=zm h;have a:=i1 _ _ _ _ A
   split at o
   ·rename_i D
    have b:=Z3 D;refine L _ _ _ _ _ o ?_;rw [ZU];simp only [depthL];omega
   ·obtain ⟨rfl,rfl⟩:=ZC o
    rw [ZU];simp only [depthL];omega
  ·rw [zy] at h
   obtain ⟨z,E,A,o⟩:=zm h;have b:=ye A
   split at o
   ·rename_i D
    have c:=Z3 D;obtain ⟨rfl,rfl⟩:=ZC o;simp only [depthL];omega
   ·obtain ⟨y,G,H,I⟩:=zm o
    obtain ⟨U,J,M,O⟩:=zm I;have a:=L _ _ _ _ _ H (Nat.le_refl _);have c:=ye M;obtain ⟨rfl,rfl⟩:=ZC O;simp only [depthL] at a;omega
theorem xG:∀(f:Nat) (m:List UInt8) (a:Nat) (r:List UInt8),(Zj f m a r).k≠1
 | 0,_,_,_=>by simp [Zj]
 | _+1,_,_,[]=>by simp [Zj]
 | f+1,m,a,x::r=>by
  unfold Zj
  split
  ·simp
  ·split
   ·simp
   ·split
    ·simp
    ·exact xG f _ _ _
theorem uA (l:List UInt8) (h:(ZJ l).k=1):(ZJ l).s.length≤20:=by
 unfold ZJ at h ⊢
 cases l with
 | nil=>simp at h
 | cons x r =>
  simp only at h ⊢
  split at h
  ·rename_i o
   rw [if_pos o]
   unfold yy at h ⊢
   split at h
   ·simp at h
   ·rename_i A
    rw [if_neg A]
    split at h
    ·simp at h
    ·rename_i y
     rw [if_neg y];simp only;omega
  ·rename_i o
   rw [if_neg o]
   split at h
   ·unfold xy at h
    split at h <;> simp at h
   ·rename_i z
    rw [if_neg z]
    split at h
    ·exact absurd h (xG _ _ _ _)
    ·unfold Ya at h
     split at h <;> simp at h
theorem Vo (l:List UInt8) (line a:Nat):Qb (tkT l line a):=fun h=>by
 have:=uA _ (show (ZJ (l.drop (a+Z7 (l.drop a)))).k=1 from h)
 have e:(tkT l line a).s=(ZJ (l.drop (a+Z7 (l.drop a)))).s:=rfl;rw [e];omega
theorem Vp (l:List UInt8):∀(f line a:Nat),a≤l.length→l.length<a+f→(Zu l f line a).2.2=0→zk (Zu l f line a).1:=by
 intro f
 induction f with
 | zero=>intro line a G H;omega
 | succ f ih =>
  intro line a G H h;rw [Zu] at h ⊢
  split at h
  ·rename_i z;exact absurd h z
  ·rename_i z
   rw [if_neg z];have D:(zw l a).e=0:=by simpa using z
   split at h
   ·rename_i o
    rw [if_pos o];exact o
   ·rename_i o
    rw [if_neg o]
    split at h
    ·rename_i y;exact absurd h y
    ·rename_i y
     rw [if_neg y];have I:=yI G D o;have A:=ih (ZK l line a) (zG l a+(zw l a).sz) I.2 (by omega) (by simpa using y)
     obtain ⟨t,ts,E⟩:=A.cons;simp only [E] at A ⊢;exact ⟨o,Vo l line a,A⟩
theorem Vq (l:List UInt8) (h:(zS l).2.2=0):zk (zS l).1:=by
 unfold zS at h ⊢
 split at h
 ·simp at h
 ·rename_i o
  rw [if_neg o];exact Vp l _ _ _ (Nat.zero_le _) (by omega) h
end Go.Proofs.YtmbofhpmockmbaaGreatDoor
