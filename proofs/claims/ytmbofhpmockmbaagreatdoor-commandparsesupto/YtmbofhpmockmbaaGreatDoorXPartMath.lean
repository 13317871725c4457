import Derived.Test.YtmbofhpmockmbaaGreatDoorMC39
namespace Go.Proofs.YtmbofhpmockmbaaGreatDoor
open Go.RowKit Go.Shelf
theorem uO {m:List UInt8} (h:m.all U6=true):(10:UInt8) ∉ ZY m:=by
 have o:∀m:List UInt8,m.all U6=true→(10:UInt8) ∉ m.flatMap Zn:=by
  intro m
  induction m with
  | nil=>intro _ h;simp at h
  | cons c m ih =>
   intro h e;rw [List.all_cons,Bool.and_eq_true] at h;rw [List.flatMap_cons,List.mem_append] at e;rcases e with e | e
   ·unfold Zn at e
    by_cases h1:c.toNat=92
    ·rw [if_pos h1] at e;revert e;decide
    ·rw [if_neg h1] at e
     by_cases h2:c.toNat=34
     ·rw [if_pos h2] at e;revert e;decide
     ·rw [if_neg h2] at e
      by_cases h3:c.toNat=10
      ·rw [if_pos h3] at e;revert e;decide
      ·rw [if_neg h3,List.mem_singleton] at e
       exact h3 (by rw [←e];rfl)
   ·exact ih h.2 e
 unfold ZY
 intro e;rcases List.mem_cons.1 e with e | e
 ·revert e;decide
 ·rcases List.mem_append.1 e with e | e
  ·exact o m h e
  ·rw [List.mem_singleton] at e;revert e;decide
theorem uP {p:Nat→Bool} (hp:p 10=false) (l:List UInt8):(10:UInt8) ∉ l.takeWhile (fun c=>p c.toNat):=by
 intro h
 have:=Y6 (p:=fun c=>p c.toNat) l 10 h
 have e:p (10:UInt8).toNat=p 10:=rfl;rw [e,hp] at this;cases this
theorem Q5 (r:List UInt8) (he:(zF r).e=0):xp (zF r).k (zF r).n (zF r).s∧(zF r).sz≤r.length∧(10:UInt8) ∉ r.take (zF r).sz∧((zF r).k≠2→Ue (zF r).k (zF r).n (zF r).s=r.take (zF r).sz)∧(zF r).k≤5:=by
 cases r with
 | nil=>exact ⟨(yZ (by decide) (by decide)).2 (.inl ⟨rfl,rfl,rfl⟩),Nat.le_refl _,by simp,fun _=>rfl,by decide⟩
 | cons x r =>
  have o:=(xJ (x::r) he).1;cases h1:zM x.toNat with
  | true =>
   rw [yF h1] at he o ⊢;have z:(x::r).take (Zh (x::r)).length=Zh (x::r):=Yo _ _;have A:(10:UInt8) ∉ Zh (x::r):=uP (by decide) _
   have D:(Zh (x::r)).all (fun c=>ZK c.toNat)=true:=by
    rw [List.all_eq_true];exact fun c I=>Y6 (p:=fun c=>ZK c.toNat) _ c I
   unfold Zo at he o ⊢
   by_cases hq:ZB (Zh (x::r))=true
   ·rw [if_pos hq] at he o ⊢
    simp only at he o ⊢;refine ⟨(yZ (by decide) (by decide)).2 (.inr (.inr (.inr ⟨rfl,hq,rfl⟩))),o,by rw [z];exact A,fun _=>?_,by decide⟩
    rw [z];rfl
   ·rw [if_neg hq] at he o ⊢
    by_cases h20:20<(Zh (x::r)).length
    ·rw [if_pos h20] at he;simp at he
    ·rw [if_neg h20] at he o ⊢
     simp only at he o ⊢;refine ⟨(yZ (by decide) (by decide)).2 (.inr (.inl ⟨rfl,?_,rfl⟩)),o,by rw [z];exact A,fun _=>?_,by decide⟩
     ·have I:Zh (x::r)=x::Zh r:=by unfold Zh;rw [List.takeWhile_cons_of_pos (by simp [ZK,h1])]
      rw [I] at D hq h20 ⊢
      unfold xt
      simp only;rw [List.all_cons,Bool.and_eq_true] at D;rw [h1,D.2,decide_eq_true (by omega)]
      simp [hq]
     ·rw [z];rfl
  | false =>
   cases h4:zE x.toNat with
   | true =>
    rw [xD h1 h4] at he o ⊢;have z:(x::r).take (digL (x::r)).length=digL (x::r):=Yo _ _;have A:(10:UInt8) ∉ digL (x::r):=uP (by decide) _
    unfold ym at he o ⊢
    by_cases hv:valA 0 (digL (x::r))<9223372036854775808
    ·rw [if_pos hv] at he o ⊢
     simp only at he o ⊢;exact ⟨(Q4 (by omega)).2 ⟨rfl,by omega⟩,o,by rw [z];exact A,fun h=>absurd rfl h,by decide⟩
    ·rw [if_neg hv] at he;simp at he
   | false =>
    by_cases h34:x.toNat=34
    ·have N:x=34:=UInt8.toNat_inj.1 h34
     have Q:=Xb (r:=r) h1 h4 h34;rw [Q] at he
     unfold zQ at he
     rw [List.drop_succ_cons,List.drop_zero] at he;obtain ⟨H,rest,-,M,K,L⟩:=xC _ [] 1 r (by simp) he
     rw [List.nil_append] at L;have E:YH H=true:=by unfold YH;rw [K,decide_eq_true L];rfl
     have O:x::r=ZY H++rest:=by rw [N,M];unfold ZY;simp
     rw [O,X5 H rest E];simp only;rw [List.take_left];exact ⟨Qe.2 ⟨E,rfl⟩,by rw [List.length_append];omega,uO K,fun _=>rfl,by decide⟩
    ·rw [Yx h1 h4 h34] at he o ⊢
     unfold ZQ at he o ⊢
     by_cases hb:bestS (x::r) 25=[]
     ·rw [if_pos hb] at he;simp at he
     ·rw [if_neg hb] at o ⊢
      simp only at o ⊢;rcases (xM (x::r)).2 with G | ⟨G,J⟩
      ·exact absurd G hb
      ·have z:(x::r).take (bestS (x::r) 25).length=bestS (x::r) 25:=by
        unfold Lib.hasPrefix at J
        exact (List.prefix_iff_eq_take.1 (List.isPrefixOf_iff_prefix.1 J)).symm
       have A:∀y∈signsL,(10:UInt8) ∉ y:=by decide
       refine ⟨(yZ (by decide) (by decide)).2 (.inr (.inr (.inl ⟨rfl,G,rfl⟩))),o,by rw [z];exact A _ G,fun _=>?_,by decide⟩
       rw [z];rfl
def Q6 (s:List UInt8) (t:Tk):Prop:=t.at0≤s.length∧t.line=1+Lib.countByte (s.take t.at0) 10∧xp t.k t.n t.s∧(t.k≠2→t.at0+(Ue t.k t.n t.s).length≤s.length∧(s.drop t.at0).take (Ue t.k t.n t.s).length=Ue t.k t.n t.s)∧t.n<9223372036854775808∧t.s.length≤5000
def VZ (s:List UInt8):Nat→List Tk→Prop
 | _,[]=>True
 | a,t::ts=>a≤t.at0∧Q6 s t∧VZ s t.at0 ts
theorem zaY (r:List UInt8):(zF r).n<9223372036854775808:=by
 cases r with
 | nil=>decide
 | cons x r =>
  cases h1:zM x.toNat with
  | true =>
   rw [yF h1]
   unfold Zo
   split
   ·exact (show (0:Nat)<9223372036854775808 by decide)
   ·split <;> exact (show (0:Nat)<9223372036854775808 by decide)
  | false =>
   cases h4:zE x.toNat with
   | true =>
    rw [xD h1 h4]
    unfold ym
    split
    ·assumption
    ·decide
   | false =>
    by_cases h34:x.toNat=34
    ·rw [Xb h1 h4 h34]
     unfold zQ
     have e:∀(f:Nat) (m:List UInt8) (a:Nat) (r:List UInt8),(zz f m a r).n=0:=by
      intro f
      induction f with
      | zero=>intro m a r;rfl
      | succ f ih =>
       intro m a r;cases r with
       | nil=>rfl
       | cons y r =>
        unfold zz
        split
        ·rfl
        ·split
         ·rfl
         ·split
          ·rfl
          ·exact ih _ _ _
     rw [e]
     decide
    ·rw [Yx h1 h4 h34]
     unfold ZQ
     split <;> exact (show (0:Nat)<9223372036854775808 by decide)
theorem Xn (s:List UInt8) (hs:s.length≤4096):∀(f line a:Nat),a≤s.length→line=1+Lib.countByte (s.take a) 10→(scanS s f line a).2.2=0→VZ s a (scanS s f line a).1
 | 0,_,_,_,_,_=>trivial
 | f+1,line,a,ha,hl,he0=>by
  have O:=Y7 ha;rw [scanS] at he0 ⊢
  by_cases he:(zv s a).e≠0
  ·rw [if_pos he] at he0;exact absurd he0 he
  ·rw [if_neg he] at he0 ⊢
   have h:(zF (s.drop (zn s a))).e=0:=by
    show (zv s a).e=0
    omega
   obtain ⟨H,N,M,J,-⟩:=Q5 (s.drop (zn s a)) h
   have o:Zc s line a=1+Lib.countByte (s.take (zn s a)) 10:=by
    unfold Zc zn
    rw [hl,List.take_add,Yd];omega
   have y:Q6 s (tkT s line a):=by
    refine ⟨O,o,H,fun hk=>?_,zaY _,?_⟩
    ·have E:=J hk
     have I:Ue (tkT s line a).k (tkT s line a).n (tkT s line a).s=(s.drop (zn s a)).take (zF (s.drop (zn s a))).sz:=E;rw [I];have K:((s.drop (zn s a)).take (zF (s.drop (zn s a))).sz).length=(zF (s.drop (zn s a))).sz:=by rw [List.length_take];omega
     rw [K];rw [List.length_drop] at N;refine ⟨?_,rfl⟩;show zn s a+(zF (s.drop (zn s a))).sz≤s.length
     omega
    ·have:=Qz (s.drop (zn s a))
     rw [List.length_drop] at this;show (zF (s.drop (zn s a))).s.length≤5000
     omega
   have D:a≤(tkT s line a).at0:=by show a≤zn s a;unfold zn;omega
   by_cases hk:(zv s a).k=0
   ·rw [if_pos hk] at he0 ⊢
    exact ⟨D,y,trivial⟩
   ·rw [if_neg hk] at he0 ⊢
    have L:=yn ha h hk
    have z:Zc s line a=1+Lib.countByte (s.take (zn s a+(zv s a).sz)) 10:=by
     rw [o,List.take_add,Yd]
     have:Lib.countByte ((s.drop (zn s a)).take (zv s a).sz) 10=0:=by
      unfold Lib.countByte
      exact List.count_eq_zero.2 M
     omega
    have G:=Xn s hs f (Zc s line a) (zn s a+(zv s a).sz) L.2 z;generalize scanS s f (Zc s line a) (zn s a+(zv s a).sz)=A at he0 G ⊢
    by_cases hA:A.2.2≠0
    ·rw [if_pos hA] at he0;exact absurd he0 hA
    ·rw [if_neg hA] at he0 ⊢
     have i1:=G (by omega)
     refine ⟨D,y,?_⟩;cases hA1:A.1 with
     | nil=>trivial
     | cons t ts =>
      rw [hA1] at i1;refine ⟨?_,i1.2⟩;have E:zn s a+(zv s a).sz≤t.at0:=i1.1;show zn s a≤t.at0
      omega
theorem X7 (s:List UInt8):∀(f line a:Nat),a≤s.length→s.length<a+f→(scanS s f line a).2.2=0→∃ts h,(scanS s f line a).1=ts++[⟨0,[],0,h,s.length⟩]
 | 0,_,_,h1,h2,_=>by omega
 | f+1,line,a,ha,hf,he0=>by
  have I:=Y7 ha;rw [scanS] at he0 ⊢
  by_cases he:(zv s a).e≠0
  ·rw [if_pos he] at he0;exact absurd he0 he
  ·rw [if_neg he] at he0 ⊢
   have o:(zv s a).e=0:=by omega
   by_cases hk:(zv s a).k=0
   ·rw [if_pos hk] at he0 ⊢
    have z:=(xJ (s.drop (zn s a)) o).2.2 hk;have H:=congrArg List.length z;rw [List.length_drop,List.length_nil] at H;have y:zn s a=s.length:=by omega
    have E:zv s a=⟨0,[],0,0,0⟩:=by
     show zF (s.drop (zn s a))=_
     rw [z];rfl
    refine ⟨[],Zc s line a,?_⟩
    unfold tkT
    rw [E,y]
    rfl
   ·rw [if_neg hk] at he0 ⊢
    have G:=yn ha o hk;have D:=X7 s f (Zc s line a) (zn s a+(zv s a).sz) G.2 (by omega)
    generalize scanS s f (Zc s line a) (zn s a+(zv s a).sz)=A at he0 D ⊢
    by_cases hA:A.2.2≠0
    ·rw [if_pos hA] at he0;exact absurd he0 hA
    ·rw [if_neg hA] at he0 ⊢
     obtain ⟨ts,h,i1⟩:=D (by omega)
     exact ⟨tkT s line a::ts,h,by rw [i1];rfl⟩
theorem UQ (s:List UInt8) (f line a:Nat) (h:(scanS s f line a).2.2≠0):(scanS s f line a).1=[]:=by
 cases f with
 | zero=>rfl
 | succ f =>
  rw [scanS] at h ⊢
  by_cases he:(zv s a).e≠0
  ·rw [if_pos he]
  ·rw [if_neg he] at h ⊢
   by_cases hk:(zv s a).k=0
   ·rw [if_pos hk] at h;exact absurd rfl h
   ·rw [if_neg hk] at h ⊢
    generalize scanS s f (Zc s line a) (zn s a+(zv s a).sz)=A at h ⊢
    by_cases hA:A.2.2≠0
    ·rw [if_pos hA]
    ·rw [if_neg hA] at h;exact absurd rfl h
theorem Xo (s:List UInt8):((zp s).2.2≠0→(zp s).1=[])∧((zp s).2.2=0→s.length≤4096∧VZ s 0 (zp s).1∧∃ts line',(zp s).1=ts++[⟨0,[],0,line',s.length⟩]):=by
 unfold zp
 by_cases h:4096<s.length
 ·rw [if_pos h]
  exact ⟨fun _=>rfl,fun h=>by simp at h⟩
 ·rw [if_neg h]
  refine ⟨UQ s _ 1 0,fun he=>⟨by omega,Xn s (by omega) _ 1 0 (Nat.zero_le _) (by simp [Lib.countByte]) he,X7 s _ 1 0 (Nat.zero_le _) (by omega) he⟩⟩
end Go.Proofs.YtmbofhpmockmbaaGreatDoor
