import Derived.Test.YtmbofhpmockmbaaGreatDoorMC31
import Derived.Test.YtmbofhpmockmbaaGreatDoorMC19
namespace Go.Proofs.YtmbofhpmockmbaaGreatDoor
open Go.RowKit Go.Shelf
theorem Z5 {s:List UInt8} {ts us:List Tk} {y:Unit} (h:Zj s ts=some (.ok (y,us))):us.length+1=ts.length:=by
 unfold Zj at h
 split at h
 ·rename_i e
  simp only [Option.some.injEq,Except.ok.injEq,Prod.mk.injEq] at h;rw [←h.2];exact ZT e
 ·simp at h
theorem xV {s:List UInt8} {ts us:List Tk} (h:Yg ts=some (.ok (s,us))):us.length+1=ts.length:=by
 unfold Yg at h
 split at h
 ·rename_i e
  simp only [Option.some.injEq,Except.ok.injEq,Prod.mk.injEq] at h;rw [←h.2];exact yq (by omega)
 ·simp at h
theorem Zv {α:Type} {x y:α} {ts us:List Tk} (h:(some (.ok (x,ts)):Option (PR α))=some (.ok (y,us))):x=y∧ts=us:=by
 simpa using h
theorem X3 (f:Nat) :
  (∀least ts x us,zd f least ts=some (.ok (x,us))→zn x+us.length≤ts.length)∧(∀least e ts x us T,zV f least e ts=some (.ok (x,us))→zn e+ts.length≤T→zn x+us.length≤T) ∧
  (∀ts x us,zW f ts=some (.ok (x,us))→zn x+us.length≤ts.length)∧(∀e ts x us T,zm f e ts=some (.ok (x,us))→zn e+ts.length≤T→zn x+us.length≤T)∧(∀ts x us,zw f ts=some (.ok (x,us))→zn x+us.length≤ts.length) ∧
  (∀pre ts l us T,ZJ f pre ts=some (.ok (l,us))→depthL pre+ts.length≤T→depthL l+us.length≤T)∧(∀ts l us,zx f ts=some (.ok (l,us))→depthL l+us.length+1≤ts.length):=by
 induction f with
 | zero=>refine ⟨?_,?_,?_,?_,?_,?_,?_⟩ <;> intros <;> simp_all [zd,zV,zW,zm,zw,ZJ,zx]
 | succ f ih =>
  obtain ⟨i1,R,Q,M,U,L,O⟩:=ih;refine ⟨fun least ts x us h=>?_,fun least e ts x us T h hT=>?_,fun ts x us h=>?_,fun e ts x us T h hT=>?_,fun ts x us h=>?_,fun pre ts l us T h hT=>?_,fun ts l us h=>?_⟩
  ·rw [zd] at h
   split at h
   ·exact Q _ _ _ h
   ·obtain ⟨y,E,A,o⟩:=zl h
    exact R _ _ _ _ _ _ o (i1 _ _ _ _ A)
  ·rw [zV] at h
   split at h
   ·rename_i D
    obtain ⟨y,E,A,o⟩:=zl h;have a:=i1 _ _ _ _ A;have b:=yq (ts:=ts) (by omega)
    have d:1≤zn y:=by cases y;simp [zn]
    refine R _ _ _ _ _ _ o ?_;simp only [zn,depthL];omega
   ·obtain ⟨rfl,rfl⟩:=Zv h;exact hT
  ·rw [zW] at h
   split at h
   ·rename_i D
    obtain ⟨y,E,A,o⟩:=zl h;have a:=Q _ _ _ A;have b:=yq (ts:=ts) (by omega)
    obtain ⟨rfl,rfl⟩:=Zv o;simp only [zn,depthL];omega
   ·obtain ⟨y,E,A,o⟩:=zl h
    exact M _ _ _ _ _ o (U _ _ _ A)
  ·rw [zm] at h
   split at h
   ·rename_i D
    obtain ⟨y,E,A,o⟩:=zl h;obtain ⟨z,H,I,G⟩:=zl o;have a:=i1 _ _ _ _ A;have b:=ZT D;have c:=Z5 I;have d:1≤zn y:=by cases y;simp [zn]
    refine M _ _ _ _ _ G ?_;simp only [zn,depthL];omega
   ·split at h
    ·rename_i D
     obtain ⟨y,E,A,o⟩:=zl h;have b:=ZT D;have c:=xV A;refine M _ _ _ _ _ o ?_;simp only [zn,depthL];omega
    ·obtain ⟨rfl,rfl⟩:=Zv h;exact hT
  ·rw [zw] at h
   split at h
   ·rename_i D
    have b:=yq (ts:=ts) (by omega)
    obtain ⟨rfl,rfl⟩:=Zv h;simp only [zn,depthL];omega
   ·split at h
    ·rename_i D
     have b:=yq (ts:=ts) (by omega)
     obtain ⟨rfl,rfl⟩:=Zv h;simp only [zn,depthL];omega
    ·split at h
     ·rename_i D
      have b:=yq (ts:=ts) (by omega)
      split at h
      ·obtain ⟨y,E,A,o⟩:=zl h
       have a:=O _ _ _ A;obtain ⟨rfl,rfl⟩:=Zv o;simp only [zn];omega
      ·obtain ⟨rfl,rfl⟩:=Zv h
       simp only [zn,depthL];omega
     ·split at h
      ·rename_i D
       have b:=ZT D;obtain ⟨rfl,rfl⟩:=Zv h;simp only [zn,depthL];omega
      ·split at h
       ·rename_i D
        have b:=ZT D;obtain ⟨rfl,rfl⟩:=Zv h;simp only [zn,depthL];omega
       ·split at h
        ·rename_i D
         have b:=ZT D;obtain ⟨s,E,A,o⟩:=zl h;obtain ⟨y,H,I,G⟩:=zl o;have a:=O _ _ _ I;have c:=xV A;obtain ⟨rfl,rfl⟩:=Zv G;simp only [zn];omega
        ·split at h
         ·rename_i D
          have b:=ZT D;obtain ⟨y,E,A,o⟩:=zl h;obtain ⟨z,H,I,G⟩:=zl o;have a:=L _ _ _ _ _ A (Nat.le_refl _);have c:=Z5 I;obtain ⟨rfl,rfl⟩:=Zv G;simp only [zn,depthL] at a ⊢;omega
         ·obtain ⟨z,E,A,o⟩:=zl h
          obtain ⟨y,H,I,G⟩:=zl o;obtain ⟨V,J,N,K⟩:=zl G;have a:=i1 _ _ _ _ I;have b:=Z5 A;have c:=Z5 N;obtain ⟨rfl,rfl⟩:=Zv K;omega
  ·rw [ZJ] at h
   obtain ⟨y,E,A,o⟩:=zl h;have a:=i1 _ _ _ _ A
   split at o
   ·rename_i D
    have b:=ZT D;refine L _ _ _ _ _ o ?_;rw [ZN];simp only [depthL];omega
   ·obtain ⟨rfl,rfl⟩:=Zv o
    rw [ZN];simp only [depthL];omega
  ·rw [zx] at h
   obtain ⟨z,E,A,o⟩:=zl h;have b:=Z5 A
   split at o
   ·rename_i D
    have c:=ZT D;obtain ⟨rfl,rfl⟩:=Zv o;simp only [depthL];omega
   ·obtain ⟨y,H,I,G⟩:=zl o
    obtain ⟨V,J,N,K⟩:=zl G;have a:=L _ _ _ _ _ I (Nat.le_refl _);have c:=Z5 N;obtain ⟨rfl,rfl⟩:=Zv K;simp only [depthL] at a;omega
theorem xh:∀(f:Nat) (m:List UInt8) (a:Nat) (r:List UInt8),(Zc f m a r).k≠1
 | 0,_,_,_=>by simp [Zc]
 | _+1,_,_,[]=>by simp [Zc]
 | f+1,m,a,x::r=>by
  unfold Zc
  split
  ·simp
  ·split
   ·simp
   ·split
    ·simp
    ·exact xh f _ _ _
theorem VV (l:List UInt8) (h:(ZB l).k=1):(ZB l).s.length≤20:=by
 unfold ZB at h ⊢
 cases l with
 | nil=>simp at h
 | cons x r =>
  simp only at h ⊢
  split at h
  ·rename_i e
   rw [if_pos e]
   unfold yo at h ⊢
   split at h
   ·simp at h
   ·rename_i z
    rw [if_neg z]
    split at h
    ·simp at h
    ·rename_i y
     rw [if_neg y];simp only;omega
  ·rename_i e
   rw [if_neg e]
   split at h
   ·unfold Y1 at h
    split at h <;> simp at h
   ·rename_i o
    rw [if_neg o]
    split at h
    ·exact absurd h (xh _ _ _ _)
    ·unfold yN at h
     split at h <;> simp at h
theorem vH (l:List UInt8) (line a:Nat):qs (tkT l line a):=fun h=>by
 have:=VV _ (show (ZB (l.drop (a+ZV (l.drop a)))).k=1 from h)
 have e:(tkT l line a).s=(ZB (l.drop (a+ZV (l.drop a)))).s:=rfl;rw [e];omega
theorem vI (l:List UInt8):∀(f line a:Nat),a≤l.length→l.length<a+f→(Zm l f line a).2.2=0→zj (Zm l f line a).1:=by
 intro f
 induction f with
 | zero=>intro line a G H;omega
 | succ f ih =>
  intro line a G H h;rw [Zm] at h ⊢
  split at h
  ·rename_i z;exact absurd h z
  ·rename_i z
   rw [if_neg z];have E:(zv l a).e=0:=by simpa using z
   split at h
   ·rename_i o
    rw [if_pos o];exact o
   ·rename_i o
    rw [if_neg o]
    split at h
    ·rename_i y;exact absurd h y
    ·rename_i y
     rw [if_neg y];have I:=yA G E o;have D:=ih (ZC l line a) (zF l a+(zv l a).sz) I.2 (by omega) (by simpa using y)
     obtain ⟨t,ts,A⟩:=D.cons;simp only [A] at D ⊢;exact ⟨o,vH l line a,D⟩
theorem vJ (l:List UInt8) (h:(zL l).2.2=0):zj (zL l).1:=by
 unfold zL at h ⊢
 split at h
 ·simp at h
 ·rename_i e
  rw [if_neg e];exact vI l _ _ _ (Nat.zero_le _) (by omega) h
end Go.Proofs.YtmbofhpmockmbaaGreatDoor
