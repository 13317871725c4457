import Derived.Test.YtmbofhpmockmbaaGreatDoorMC30
import Derived.Test.YtmbofhpmockmbaaGreatDoorMC18
namespace Go.Proofs.YtmbofhpmockmbaaGreatDoor
open Go.RowKit Go.Shelf
theorem ZP {s:List UInt8} {ts us:List Tk} {y:Unit} (h:Zb s ts=some (.ok (y,us))):us.length+1=ts.length:=by
 unfold Zb at h
 split at h
 ·rename_i e
  simp only [Option.some.injEq,Except.ok.injEq,Prod.mk.injEq] at h;rw [←h.2];exact ZD e
 ·simp at h
theorem Y0 {s:List UInt8} {ts us:List Tk} (h:yF ts=some (.ok (s,us))):us.length+1=ts.length:=by
 unfold yF at h
 split at h
 ·rename_i e
  simp only [Option.some.injEq,Except.ok.injEq,Prod.mk.injEq] at h;rw [←h.2];exact Z4 (by omega)
 ·simp at h
theorem Zj {α:Type} {x y:α} {ts us:List Tk} (h:(some (.ok (x,ts)):Option (PR α))=some (.ok (y,us))):x=y∧ts=us:=by
 simpa using h
theorem xU (f:Nat) :
  (∀least ts x us,zd f least ts=some (.ok (x,us))→zl x+us.length≤ts.length)∧(∀least e ts x us T,zP f least e ts=some (.ok (x,us))→zl e+ts.length≤T→zl x+us.length≤T) ∧
  (∀ts x us,zQ f ts=some (.ok (x,us))→zl x+us.length≤ts.length)∧(∀e ts x us T,zk f e ts=some (.ok (x,us))→zl e+ts.length≤T→zl x+us.length≤T)∧(∀ts x us,zt f ts=some (.ok (x,us))→zl x+us.length≤ts.length) ∧
  (∀pre ts l us T,Zu f pre ts=some (.ok (l,us))→depthL pre+ts.length≤T→depthL l+us.length≤T)∧(∀ts l us,zu f ts=some (.ok (l,us))→depthL l+us.length+1≤ts.length):=by
 induction f with
 | zero=>refine ⟨?_,?_,?_,?_,?_,?_,?_⟩ <;> intros <;> simp_all [zd,zP,zQ,zk,zt,Zu,zu]
 | succ f ih =>
  obtain ⟨i1,O,Q,L,U,M,R⟩:=ih;refine ⟨fun least ts x us h=>?_,fun least e ts x us T h hT=>?_,fun ts x us h=>?_,fun e ts x us T h hT=>?_,fun ts x us h=>?_,fun pre ts l us T h hT=>?_,fun ts l us h=>?_⟩
  ·rw [zd] at h
   split at h
   ·exact Q _ _ _ h
   ·obtain ⟨y,E,A,o⟩:=zj h
    exact O _ _ _ _ _ _ o (i1 _ _ _ _ A)
  ·rw [zP] at h
   split at h
   ·rename_i D
    obtain ⟨y,E,A,o⟩:=zj h;have a:=i1 _ _ _ _ A;have b:=Z4 (ts:=ts) (by omega)
    have d:1≤zl y:=by cases y;simp [zl]
    refine O _ _ _ _ _ _ o ?_;simp only [zl,depthL];omega
   ·obtain ⟨rfl,rfl⟩:=Zj h;exact hT
  ·rw [zQ] at h
   split at h
   ·rename_i D
    obtain ⟨y,E,A,o⟩:=zj h;have a:=Q _ _ _ A;have b:=Z4 (ts:=ts) (by omega)
    obtain ⟨rfl,rfl⟩:=Zj o;simp only [zl,depthL];omega
   ·obtain ⟨y,E,A,o⟩:=zj h
    exact L _ _ _ _ _ o (U _ _ _ A)
  ·rw [zk] at h
   split at h
   ·rename_i D
    obtain ⟨y,E,A,o⟩:=zj h;obtain ⟨z,H,G,I⟩:=zj o;have a:=i1 _ _ _ _ A;have b:=ZD D;have c:=ZP G;have d:1≤zl y:=by cases y;simp [zl]
    refine L _ _ _ _ _ I ?_;simp only [zl,depthL];omega
   ·split at h
    ·rename_i D
     obtain ⟨y,E,A,o⟩:=zj h;have b:=ZD D;have c:=Y0 A;refine L _ _ _ _ _ o ?_;simp only [zl,depthL];omega
    ·obtain ⟨rfl,rfl⟩:=Zj h;exact hT
  ·rw [zt] at h
   split at h
   ·rename_i D
    have b:=Z4 (ts:=ts) (by omega)
    obtain ⟨rfl,rfl⟩:=Zj h;simp only [zl,depthL];omega
   ·split at h
    ·rename_i D
     have b:=Z4 (ts:=ts) (by omega)
     obtain ⟨rfl,rfl⟩:=Zj h;simp only [zl,depthL];omega
    ·split at h
     ·rename_i D
      have b:=Z4 (ts:=ts) (by omega)
      split at h
      ·obtain ⟨y,E,A,o⟩:=zj h
       have a:=R _ _ _ A;obtain ⟨rfl,rfl⟩:=Zj o;simp only [zl];omega
      ·obtain ⟨rfl,rfl⟩:=Zj h
       simp only [zl,depthL];omega
     ·split at h
      ·rename_i D
       have b:=ZD D;obtain ⟨rfl,rfl⟩:=Zj h;simp only [zl,depthL];omega
      ·split at h
       ·rename_i D
        have b:=ZD D;obtain ⟨rfl,rfl⟩:=Zj h;simp only [zl,depthL];omega
       ·split at h
        ·rename_i D
         have b:=ZD D;obtain ⟨s,E,A,o⟩:=zj h;obtain ⟨y,H,G,I⟩:=zj o;have a:=R _ _ _ G;have c:=Y0 A;obtain ⟨rfl,rfl⟩:=Zj I;simp only [zl];omega
        ·split at h
         ·rename_i D
          have b:=ZD D;obtain ⟨y,E,A,o⟩:=zj h;obtain ⟨z,H,G,I⟩:=zj o;have a:=M _ _ _ _ _ A (Nat.le_refl _);have c:=ZP G;obtain ⟨rfl,rfl⟩:=Zj I;simp only [zl,depthL] at a ⊢;omega
         ·obtain ⟨z,E,A,o⟩:=zj h
          obtain ⟨y,H,G,I⟩:=zj o;obtain ⟨S,J,K,N⟩:=zj I;have a:=i1 _ _ _ _ G;have b:=ZP A;have c:=ZP K;obtain ⟨rfl,rfl⟩:=Zj N;omega
  ·rw [Zu] at h
   obtain ⟨y,E,A,o⟩:=zj h;have a:=i1 _ _ _ _ A
   split at o
   ·rename_i D
    have b:=ZD D;refine M _ _ _ _ _ o ?_;rw [Zy];simp only [depthL];omega
   ·obtain ⟨rfl,rfl⟩:=Zj o
    rw [Zy];simp only [depthL];omega
  ·rw [zu] at h
   obtain ⟨z,E,A,o⟩:=zj h;have b:=ZP A
   split at o
   ·rename_i D
    have c:=ZD D;obtain ⟨rfl,rfl⟩:=Zj o;simp only [depthL];omega
   ·obtain ⟨y,H,G,I⟩:=zj o
    obtain ⟨S,J,K,N⟩:=zj I;have a:=M _ _ _ _ _ G (Nat.le_refl _);have c:=ZP K;obtain ⟨rfl,rfl⟩:=Zj N;simp only [depthL] at a;omega
theorem Yw:∀(f:Nat) (m:List UInt8) (a:Nat) (r:List UInt8),(zY f m a r).k≠1
 | 0,_,_,_=>by simp [zY]
 | _+1,_,_,[]=>by simp [zY]
 | f+1,m,a,x::r=>by
  unfold zY
  split
  ·simp
  ·split
   ·simp
   ·split
    ·simp
    ·exact Yw f _ _ _
theorem vv (l:List UInt8) (h:(Zn l).k=1):(Zn l).s.length≤20:=by
 unfold Zn at h ⊢
 cases l with
 | nil=>simp at h
 | cons x r =>
  simp only at h ⊢
  split at h
  ·rename_i e
   rw [if_pos e]
   unfold Z2 at h ⊢
   split at h
   ·simp at h
   ·rename_i o
    rw [if_neg o]
    split at h
    ·simp at h
    ·rename_i z
     rw [if_neg z];simp only;omega
  ·rename_i e
   rw [if_neg e]
   split at h
   ·unfold Yj at h
    split at h <;> simp at h
   ·rename_i y
    rw [if_neg y]
    split at h
    ·exact absurd h (Yw _ _ _ _)
    ·unfold yn at h
     split at h <;> simp at h
theorem Xu (l:List UInt8) (line a:Nat):uv (tkT l line a):=fun h=>by
 have:=vv _ (show (Zn (l.drop (a+ZF (l.drop a)))).k=1 from h)
 have e:(tkT l line a).s=(Zn (l.drop (a+ZF (l.drop a)))).s:=rfl;rw [e];omega
theorem Xv (l:List UInt8):∀(f line a:Nat),a≤l.length→l.length<a+f→(Zd l f line a).2.2=0→zh (Zd l f line a).1:=by
 intro f
 induction f with
 | zero=>intro line a E H;omega
 | succ f ih =>
  intro line a E H h;rw [Zd] at h ⊢
  split at h
  ·rename_i y;exact absurd h y
  ·rename_i y
   rw [if_neg y];have z:(zs l a).e=0:=by simpa using y
   split at h
   ·rename_i o
    rw [if_pos o];exact o
   ·rename_i o
    rw [if_neg o]
    split at h
    ·rename_i x;exact absurd h x
    ·rename_i x
     rw [if_neg x];have G:=Z8 E z o;have D:=ih (Zo l line a) (zC l a+(zs l a).sz) G.2 (by omega) (by simpa using x)
     obtain ⟨t,ts,A⟩:=D.cons;simp only [A] at D ⊢;exact ⟨o,Xu l line a,D⟩
theorem Xw (l:List UInt8) (h:(zJ l).2.2=0):zh (zJ l).1:=by
 unfold zJ at h ⊢
 split at h
 ·simp at h
 ·rename_i e
  rw [if_neg e];exact Xv l _ _ _ (Nat.zero_le _) (by omega) h
end Go.Proofs.YtmbofhpmockmbaaGreatDoor
