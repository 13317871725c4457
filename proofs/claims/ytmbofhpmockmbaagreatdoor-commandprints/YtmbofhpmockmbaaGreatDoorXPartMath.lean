import Derived.Test.YtmbofhpmockmbaaGreatDoorMC40
namespace Go.Proofs.YtmbofhpmockmbaaGreatDoor
open Go.RowKit Go.Shelf
theorem ur {m:List UInt8} (h:m.all UO=true):(10:UInt8) ∉ ZV m:=by
 have o:∀m:List UInt8,m.all UO=true→(10:UInt8) ∉ m.flatMap Zj:=by
  intro m
  induction m with
  | nil=>intro _ h;simp at h
  | cons c m ih =>
   intro h e;rw [List.all_cons,Bool.and_eq_true] at h;rw [List.flatMap_cons,List.mem_append] at e;rcases e with e | e
   ·unfold Zj at e
    by_cases h1:c.toNat=92
    ·rw [if_pos h1] at e;revert e;decide
    ·rw [if_neg h1] at e
     by_cases h2:c.toNat=34
     ·rw [if_pos h2] at e;revert e;decide
     ·rw [if_neg h2] at e
      by_cases h3:c.toNat=10
      ·rw [if_pos h3] at e;revert e;decide
      ·rw [if_neg h3,List.mem_singleton] at e
       exact h3 (by rw [←e];rfl)
   ·exact ih h.2 e
 unfold ZV
 intro e;rcases List.mem_cons.1 e with e | e
 ·revert e;decide
 ·rcases List.mem_append.1 e with e | e
  ·exact o m h e
  ·rw [List.mem_singleton] at e;revert e;decide
theorem ut {p:Nat→Bool} (hp:p 10=false) (l:List UInt8):(10:UInt8) ∉ l.takeWhile (fun c=>p c.toNat):=by
 intro h
 have:=YX (p:=fun c=>p c.toNat) l 10 h
 have e:p (10:UInt8).toNat=p 10:=rfl;rw [e,hp] at this;cases this
theorem QH (r:List UInt8) (he:(zD r).e=0):Y9 (zD r).k (zD r).n (zD r).s∧(zD r).sz≤r.length∧(10:UInt8) ∉ r.take (zD r).sz∧((zD r).k≠2→uH (zD r).k (zD r).n (zD r).s=r.take (zD r).sz)∧(zD r).k≤5:=by
 cases r with
 | nil=>exact ⟨(yS (by decide) (by decide)).2 (.inl ⟨rfl,rfl,rfl⟩),Nat.le_refl _,by simp,fun _=>rfl,by decide⟩
 | cons x r =>
  have o:=(xy (x::r) he).1;cases h1:zK x.toNat with
  | true =>
   rw [yA h1] at he o ⊢;have z:(x::r).take (Ze (x::r)).length=Ze (x::r):=Yh _ _;have A:(10:UInt8) ∉ Ze (x::r):=ut (by decide) _
   have D:(Ze (x::r)).all (fun c=>ZG c.toNat)=true:=by
    rw [List.all_eq_true];exact fun c I=>YX (p:=fun c=>ZG c.toNat) _ c I
   unfold Zk at he o ⊢
   by_cases hq:Zv (Ze (x::r))=true
   ·rw [if_pos hq] at he o ⊢
    simp only at he o ⊢;refine ⟨(yS (by decide) (by decide)).2 (.inr (.inr (.inr ⟨rfl,hq,rfl⟩))),o,by rw [z];exact A,fun _=>?_,by decide⟩
    rw [z];rfl
   ·rw [if_neg hq] at he o ⊢
    by_cases h20:20<(Ze (x::r)).length
    ·rw [if_pos h20] at he;simp at he
    ·rw [if_neg h20] at he o ⊢
     simp only at he o ⊢;refine ⟨(yS (by decide) (by decide)).2 (.inr (.inl ⟨rfl,?_,rfl⟩)),o,by rw [z];exact A,fun _=>?_,by decide⟩
     ·have I:Ze (x::r)=x::Ze r:=by unfold Ze;rw [List.takeWhile_cons_of_pos (by simp [ZG,h1])]
      rw [I] at D hq h20 ⊢
      unfold xg
      simp only;rw [List.all_cons,Bool.and_eq_true] at D;rw [h1,D.2,decide_eq_true (by omega)]
      simp [hq]
     ·rw [z];rfl
  | false =>
   cases h4:zC x.toNat with
   | true =>
    rw [xq h1 h4] at he o ⊢;have z:(x::r).take (digL (x::r)).length=digL (x::r):=Yh _ _;have A:(10:UInt8) ∉ digL (x::r):=ut (by decide) _
    unfold yj at he o ⊢
    by_cases hv:valA 0 (digL (x::r))<9223372036854775808
    ·rw [if_pos hv] at he o ⊢
     simp only at he o ⊢;exact ⟨(QG (by omega)).2 ⟨rfl,by omega⟩,o,by rw [z];exact A,fun h=>absurd rfl h,by decide⟩
    ·rw [if_neg hv] at he;simp at he
   | false =>
    by_cases h34:x.toNat=34
    ·have M:x=34:=UInt8.toNat_inj.1 h34
     have O:=xU (r:=r) h1 h4 h34;rw [O] at he
     unfold zO at he
     rw [List.drop_succ_cons,List.drop_zero] at he;obtain ⟨H,rest,-,Q,J,K⟩:=xp _ [] 1 r (by simp) he
     rw [List.nil_append] at K;have E:YA H=true:=by unfold YA;rw [J,decide_eq_true K];rfl
     have N:x::r=ZV H++rest:=by rw [M,Q];unfold ZV;simp
     rw [N,XR H rest E];simp only;rw [List.take_left];exact ⟨qL.2 ⟨E,rfl⟩,by rw [List.length_append];omega,ur J,fun _=>rfl,by decide⟩
    ·rw [Yq h1 h4 h34] at he o ⊢
     unfold ZM at he o ⊢
     by_cases hb:bestS (x::r) 25=[]
     ·rw [if_pos hb] at he;simp at he
     ·rw [if_neg hb] at o ⊢
      simp only at o ⊢;rcases (xB (x::r)).2 with G | ⟨G,L⟩
      ·exact absurd G hb
      ·have z:(x::r).take (bestS (x::r) 25).length=bestS (x::r) 25:=by
        unfold Lib.hasPrefix at L
        exact (List.prefix_iff_eq_take.1 (List.isPrefixOf_iff_prefix.1 L)).symm
       have A:∀y∈signsL,(10:UInt8) ∉ y:=by decide
       refine ⟨(yS (by decide) (by decide)).2 (.inr (.inr (.inl ⟨rfl,G,rfl⟩))),o,by rw [z];exact A _ G,fun _=>?_,by decide⟩
       rw [z];rfl
def QI (s:List UInt8) (t:Tk):Prop:=t.at0≤s.length∧t.line=1+Lib.countByte (s.take t.at0) 10∧Y9 t.k t.n t.s∧(t.k≠2→t.at0+(uH t.k t.n t.s).length≤s.length∧(s.drop t.at0).take (uH t.k t.n t.s).length=uH t.k t.n t.s)∧t.n<9223372036854775808∧t.s.length≤5000
def VF (s:List UInt8):Nat→List Tk→Prop
 | _,[]=>True
 | a,t::ts=>a≤t.at0∧QI s t∧VF s t.at0 ts
theorem zaB (r:List UInt8):(zD r).n<9223372036854775808:=by
 cases r with
 | nil=>decide
 | cons x r =>
  cases h1:zK x.toNat with
  | true =>
   rw [yA h1]
   unfold Zk
   split
   ·exact (show (0:Nat)<9223372036854775808 by decide)
   ·split <;> exact (show (0:Nat)<9223372036854775808 by decide)
  | false =>
   cases h4:zC x.toNat with
   | true =>
    rw [xq h1 h4]
    unfold yj
    split
    ·assumption
    ·decide
   | false =>
    by_cases h34:x.toNat=34
    ·rw [xU h1 h4 h34]
     unfold zO
     have e:∀(f:Nat) (m:List UInt8) (a:Nat) (r:List UInt8),(zx f m a r).n=0:=by
      intro f
      induction f with
      | zero=>intro m a r;rfl
      | succ f ih =>
       intro m a r;cases r with
       | nil=>rfl
       | cons y r =>
        unfold zx
        split
        ·rfl
        ·split
         ·rfl
         ·split
          ·rfl
          ·exact ih _ _ _
     rw [e]
     decide
    ·rw [Yq h1 h4 h34]
     unfold ZM
     split <;> exact (show (0:Nat)<9223372036854775808 by decide)
theorem Xd (s:List UInt8) (hs:s.length≤4096):∀(f line a:Nat),a≤s.length→line=1+Lib.countByte (s.take a) 10→(scanS s f line a).2.2=0→VF s a (scanS s f line a).1
 | 0,_,_,_,_,_=>trivial
 | f+1,line,a,ha,hl,he0=>by
  have J:=YY ha;rw [scanS] at he0 ⊢
  by_cases he:(zt s a).e≠0
  ·rw [if_pos he] at he0;exact absurd he0 he
  ·rw [if_neg he] at he0 ⊢
   have o:(zD (s.drop (zl s a))).e=0:=by
    show (zt s a).e=0
    omega
   obtain ⟨N,L,K,H,-⟩:=QH (s.drop (zl s a)) o
   have y:z8 s line a=1+Lib.countByte (s.take (zl s a)) 10:=by
    unfold z8 zl
    rw [hl,List.take_add,yZ];omega
   have D:QI s (tkT s line a):=by
    refine ⟨J,y,N,fun hk=>?_,zaB _,?_⟩
    ·have E:=H hk
     have I:uH (tkT s line a).k (tkT s line a).n (tkT s line a).s=(s.drop (zl s a)).take (zD (s.drop (zl s a))).sz:=E;rw [I];have M:((s.drop (zl s a)).take (zD (s.drop (zl s a))).sz).length=(zD (s.drop (zl s a))).sz:=by rw [List.length_take];omega
     rw [M];rw [List.length_drop] at L;refine ⟨?_,rfl⟩;show zl s a+(zD (s.drop (zl s a))).sz≤s.length
     omega
    ·have:=Qc (s.drop (zl s a))
     rw [List.length_drop] at this;show (zD (s.drop (zl s a))).s.length≤5000
     omega
   have h:a≤(tkT s line a).at0:=by show a≤zl s a;unfold zl;omega
   by_cases hk:(zt s a).k=0
   ·rw [if_pos hk] at he0 ⊢
    exact ⟨h,D,trivial⟩
   ·rw [if_neg hk] at he0 ⊢
    have O:=yk ha o hk
    have z:z8 s line a=1+Lib.countByte (s.take (zl s a+(zt s a).sz)) 10:=by
     rw [y,List.take_add,yZ]
     have:Lib.countByte ((s.drop (zl s a)).take (zt s a).sz) 10=0:=by
      unfold Lib.countByte
      exact List.count_eq_zero.2 K
     omega
    have G:=Xd s hs f (z8 s line a) (zl s a+(zt s a).sz) O.2 z;generalize scanS s f (z8 s line a) (zl s a+(zt s a).sz)=A at he0 G ⊢
    by_cases hA:A.2.2≠0
    ·rw [if_pos hA] at he0;exact absurd he0 hA
    ·rw [if_neg hA] at he0 ⊢
     have i1:=G (by omega)
     refine ⟨h,D,?_⟩;cases hA1:A.1 with
     | nil=>trivial
     | cons t ts =>
      rw [hA1] at i1;refine ⟨?_,i1.2⟩;have E:zl s a+(zt s a).sz≤t.at0:=i1.1;show zl s a≤t.at0
      omega
theorem XT (s:List UInt8):∀(f line a:Nat),a≤s.length→s.length<a+f→(scanS s f line a).2.2=0→∃ts h,(scanS s f line a).1=ts++[⟨0,[],0,h,s.length⟩]
 | 0,_,_,h1,h2,_=>by omega
 | f+1,line,a,ha,hf,he0=>by
  have I:=YY ha;rw [scanS] at he0 ⊢
  by_cases he:(zt s a).e≠0
  ·rw [if_pos he] at he0;exact absurd he0 he
  ·rw [if_neg he] at he0 ⊢
   have o:(zt s a).e=0:=by omega
   by_cases hk:(zt s a).k=0
   ·rw [if_pos hk] at he0 ⊢
    have z:=(xy (s.drop (zl s a)) o).2.2 hk;have E:=congrArg List.length z;rw [List.length_drop,List.length_nil] at E;have y:zl s a=s.length:=by omega
    have G:zt s a=⟨0,[],0,0,0⟩:=by
     show zD (s.drop (zl s a))=_
     rw [z];rfl
    refine ⟨[],z8 s line a,?_⟩
    unfold tkT
    rw [G,y]
    rfl
   ·rw [if_neg hk] at he0 ⊢
    have H:=yk ha o hk;have D:=XT s f (z8 s line a) (zl s a+(zt s a).sz) H.2 (by omega)
    generalize scanS s f (z8 s line a) (zl s a+(zt s a).sz)=A at he0 D ⊢
    by_cases hA:A.2.2≠0
    ·rw [if_pos hA] at he0;exact absurd he0 hA
    ·rw [if_neg hA] at he0 ⊢
     obtain ⟨ts,h,i1⟩:=D (by omega)
     exact ⟨tkT s line a::ts,h,by rw [i1];rfl⟩
theorem Ux (s:List UInt8) (f line a:Nat) (h:(scanS s f line a).2.2≠0):(scanS s f line a).1=[]:=by
 cases f with
 | zero=>rfl
 | succ f =>
  rw [scanS] at h ⊢
  by_cases he:(zt s a).e≠0
  ·rw [if_pos he]
  ·rw [if_neg he] at h ⊢
   by_cases hk:(zt s a).k=0
   ·rw [if_pos hk] at h;exact absurd rfl h
   ·rw [if_neg hk] at h ⊢
    generalize scanS s f (z8 s line a) (zl s a+(zt s a).sz)=A at h ⊢
    by_cases hA:A.2.2≠0
    ·rw [if_pos hA]
    ·rw [if_neg hA] at h;exact absurd rfl h
theorem Xe (s:List UInt8):((zn s).2.2≠0→(zn s).1=[])∧((zn s).2.2=0→s.length≤4096∧VF s 0 (zn s).1∧∃ts line',(zn s).1=ts++[⟨0,[],0,line',s.length⟩]):=by
 unfold zn
 by_cases h:4096<s.length
 ·rw [if_pos h]
  exact ⟨fun _=>rfl,fun h=>by simp at h⟩
 ·rw [if_neg h]
  refine ⟨Ux s _ 1 0,fun he=>⟨by omega,Xd s (by omega) _ 1 0 (Nat.zero_le _) (by simp [Lib.countByte]) he,XT s _ 1 0 (Nat.zero_le _) (by omega) he⟩⟩
end Go.Proofs.YtmbofhpmockmbaaGreatDoor
