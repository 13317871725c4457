import Derived.Test.YtdgpapchkpnijaaGreatDoorMC39
namespace Go.Proofs.YtdgpapchkpnijaaGreatDoor
open Go.RowKit Go.Shelf
theorem QY {m:List UInt8} (h:m.all okC=true):(10:UInt8) ∉ yq m:=by
 have key:∀m:List UInt8,m.all okC=true→(10:UInt8) ∉ m.flatMap Zi:=by
  intro m
  induction m with
  | nil=>intro _ h;simp at h
  | cons c m ih =>
   intro h hm;rw [List.all_cons,Bool.and_eq_true] at h;rw [List.flatMap_cons,List.mem_append] at hm;rcases hm with hm | hm
   ·unfold Zi at hm
    by_cases h1:c.toNat=92
    ·rw [if_pos h1] at hm;revert hm;decide
    ·rw [if_neg h1] at hm
     by_cases h2:c.toNat=34
     ·rw [if_pos h2] at hm;revert hm;decide
     ·rw [if_neg h2] at hm
      by_cases h3:c.toNat=10
      ·rw [if_pos h3] at hm;revert hm;decide
      ·rw [if_neg h3,List.mem_singleton] at hm
       exact h3 (by rw [←hm];rfl)
   ·exact ih h.2 hm
 unfold yq
 intro hm;rcases List.mem_cons.1 hm with hm | hm
 ·revert hm;decide
 ·rcases List.mem_append.1 hm with hm | hm
  ·exact key m h hm
  ·rw [List.mem_singleton] at hm;revert hm;decide
theorem QZ {p:Nat→Bool} (hp:p 10=false) (l:List UInt8):(10:UInt8) ∉ l.takeWhile (fun c=>p c.toNat):=by
 intro h
 have:=XM (p:=fun c=>p c.toNat) l 10 h
 have e:p (10:UInt8).toNat=p 10:=rfl;rw [e,hp] at this;cases this
theorem zdu (r:List UInt8) (he:(zR r).e=0):YS (zR r).k (zR r).n (zR r).s∧(zR r).sz≤r.length∧(10:UInt8) ∉ r.take (zR r).sz∧((zR r).k≠2→vq (zR r).k (zR r).n (zR r).s=r.take (zR r).sz)∧(zR r).k≤5:=by
 cases r with
 | nil=>exact ⟨(xi (by decide) (by decide)).2 (.inl ⟨rfl,rfl,rfl⟩),Nat.le_refl _,by simp,fun _=>rfl,by decide⟩
 | cons x r =>
  have hsz:=(vS (x::r) he).1;cases h1:Zg x.toNat with
  | true =>
   rw [YJ h1] at he hsz ⊢;have htk:(x::r).take (ZY (x::r)).length=ZY (x::r):=xR _ _;have hne:(10:UInt8) ∉ ZY (x::r):=QZ (by decide) _
   have hall:(ZY (x::r)).all (fun c=>yz c.toNat)=true:=by
    rw [List.all_eq_true];exact fun c hc=>XM (p:=fun c=>yz c.toNat) _ c hc
   unfold Z4 at he hsz ⊢
   by_cases hq:ym (ZY (x::r))=true
   ·rw [if_pos hq] at he hsz ⊢
    simp only at he hsz ⊢;refine ⟨(xi (by decide) (by decide)).2 (.inr (.inr (.inr ⟨rfl,hq,rfl⟩))),hsz,by rw [htk];exact hne,fun _=>?_,by decide⟩
    rw [htk];rfl
   ·rw [if_neg hq] at he hsz ⊢
    by_cases h20:20<(ZY (x::r)).length
    ·rw [if_pos h20] at he;simp at he
    ·rw [if_neg h20] at he hsz ⊢
     simp only at he hsz ⊢;refine ⟨(xi (by decide) (by decide)).2 (.inr (.inl ⟨rfl,?_,rfl⟩)),hsz,by rw [htk];exact hne,fun _=>?_,by decide⟩
     ·have hc:ZY (x::r)=x::ZY r:=by unfold ZY;rw [List.takeWhile_cons_of_pos (by simp [yz,h1])]
      rw [hc] at hall hq h20 ⊢
      unfold X5
      simp only;rw [List.all_cons,Bool.and_eq_true] at hall;rw [h1,hall.2,decide_eq_true (by omega)]
      simp [hq]
     ·rw [htk];rfl
  | false =>
   cases h4:z6 x.toNat with
   | true =>
    rw [vC h1 h4] at he hsz ⊢;have htk:(x::r).take (digL (x::r)).length=digL (x::r):=xR _ _;have hne:(10:UInt8) ∉ digL (x::r):=QZ (by decide) _
    unfold Yr at he hsz ⊢
    by_cases hv:valA 0 (digL (x::r))<9223372036854775808
    ·rw [if_pos hv] at he hsz ⊢
     simp only at he hsz ⊢;exact ⟨(zc2 (by omega)).2 ⟨rfl,by omega⟩,hsz,by rw [htk];exact hne,fun h=>absurd rfl h,by decide⟩
    ·rw [if_neg hv] at he;simp at he
   | false =>
    by_cases h34:x.toNat=34
    ·have hx:x=34:=UInt8.toNat_inj.1 h34
     have hT:=Vv (r:=r) h1 h4 h34;rw [hT] at he
     unfold Zm at he
     rw [List.drop_succ_cons,List.drop_zero] at he;obtain ⟨m1,rest,-,i2,i3,i4⟩:=vt _ [] 1 r (by simp) he
     rw [List.nil_append] at i4;have hpl:Xh m1=true:=by unfold Xh;rw [i3,decide_eq_true i4];rfl
     have hr:x::r=yq m1++rest:=by rw [hx,i2];unfold yq;simp
     rw [hr,uj m1 rest hpl];simp only;rw [List.take_left];exact ⟨zb1.2 ⟨hpl,rfl⟩,by rw [List.length_append];omega,QY i3,fun _=>rfl,by decide⟩
    ·rw [xX h1 h4 h34] at he hsz ⊢
     unfold yH at he hsz ⊢
     by_cases hb:bestS (x::r) 25=[]
     ·rw [if_pos hb] at he;simp at he
     ·rw [if_neg hb] at hsz ⊢
      simp only at hsz ⊢;rcases (vU (x::r)).2 with h9 | ⟨h9,h8⟩
      ·exact absurd h9 hb
      ·have htk:(x::r).take (bestS (x::r) 25).length=bestS (x::r) 25:=by
        unfold Lib.hasPrefix at h8
        exact (List.prefix_iff_eq_take.1 (List.isPrefixOf_iff_prefix.1 h8)).symm
       have hne:∀y∈signsL,(10:UInt8) ∉ y:=by decide
       refine ⟨(xi (by decide) (by decide)).2 (.inr (.inr (.inl ⟨rfl,h9,rfl⟩))),hsz,by rw [htk];exact hne _ h9,fun _=>?_,by decide⟩
       rw [htk];rfl
def zdv (s:List UInt8) (t:Tk):Prop:=t.at0≤s.length∧t.line=1+Lib.countByte (s.take t.at0) 10∧YS t.k t.n t.s∧(t.k≠2→t.at0+(vq t.k t.n t.s).length≤s.length∧(s.drop t.at0).take (vq t.k t.n t.s).length=vq t.k t.n t.s)∧t.n<9223372036854775808∧t.s.length≤5000
def qB (s:List UInt8):Nat→List Tk→Prop
 | _,[]=>True
 | a,t::ts=>a≤t.at0∧zdv s t∧qB s t.at0 ts
theorem zfe (r:List UInt8):(zR r).n<9223372036854775808:=by
 cases r with
 | nil=>decide
 | cons x r =>
  cases h1:Zg x.toNat with
  | true =>
   rw [YJ h1]
   unfold Z4
   split
   ·exact (show (0:Nat)<9223372036854775808 by decide)
   ·split <;> exact (show (0:Nat)<9223372036854775808 by decide)
  | false =>
   cases h4:z6 x.toNat with
   | true =>
    rw [vC h1 h4]
    unfold Yr
    split
    ·assumption
    ·decide
   | false =>
    by_cases h34:x.toNat=34
    ·rw [Vv h1 h4 h34]
     unfold Zm
     have key:∀(f:Nat) (m:List UInt8) (a:Nat) (r:List UInt8),(zT f m a r).n=0:=by
      intro f
      induction f with
      | zero=>intro m a r;rfl
      | succ f ih =>
       intro m a r;cases r with
       | nil=>rfl
       | cons y r =>
        unfold zT
        split
        ·rfl
        ·split
         ·rfl
         ·split
          ·rfl
          ·exact ih _ _ _
     rw [key]
     decide
    ·rw [xX h1 h4 h34]
     unfold yH
     split <;> exact (show (0:Nat)<9223372036854775808 by decide)
theorem VN (s:List UInt8) (hs:s.length≤4096):∀(f line a:Nat),a≤s.length→line=1+Lib.countByte (s.take a) 10→(scanS s f line a).2.2=0→qB s a (scanS s f line a).1
 | 0,_,_,_,_,_=>trivial
 | f+1,line,a,ha,hl,he0=>by
  have hp:=XN ha;rw [scanS] at he0 ⊢
  by_cases he:(zM s a).e≠0
  ·rw [if_pos he] at he0;exact absurd he0 he
  ·rw [if_neg he] at he0 ⊢
   have he1:(zR (s.drop (zF s a))).e=0:=by
    show (zM s a).e=0
    omega
   obtain ⟨r1,r2,r3,r4,-⟩:=zdu (s.drop (zF s a)) he1
   have hln:ZP s line a=1+Lib.countByte (s.take (zF s a)) 10:=by
    unfold ZP zF
    rw [hl,List.take_add,xu];omega
   have hpt:zdv s (tkT s line a):=by
    refine ⟨hp,hln,r1,fun hk=>?_,zfe _,?_⟩
    ·have h9:=r4 hk
     have e1:vq (tkT s line a).k (tkT s line a).n (tkT s line a).s=(s.drop (zF s a)).take (zR (s.drop (zF s a))).sz:=h9;rw [e1];have e2:((s.drop (zF s a)).take (zR (s.drop (zF s a))).sz).length=(zR (s.drop (zF s a))).sz:=by rw [List.length_take];omega
     rw [e2];rw [List.length_drop] at r2;refine ⟨?_,rfl⟩;show zF s a+(zR (s.drop (zF s a))).sz≤s.length
     omega
    ·have:=zcE (s.drop (zF s a))
     rw [List.length_drop] at this;show (zR (s.drop (zF s a))).s.length≤5000
     omega
   have hat:a≤(tkT s line a).at0:=by show a≤zF s a;unfold zF;omega
   by_cases hk:(zM s a).k=0
   ·rw [if_pos hk] at he0 ⊢
    exact ⟨hat,hpt,trivial⟩
   ·rw [if_neg hk] at he0 ⊢
    have hm:=Ys ha he1 hk
    have hln2:ZP s line a=1+Lib.countByte (s.take (zF s a+(zM s a).sz)) 10:=by
     rw [hln,List.take_add,xu]
     have:Lib.countByte ((s.drop (zF s a)).take (zM s a).sz) 10=0:=by
      unfold Lib.countByte
      exact List.count_eq_zero.2 r3
     omega
    have ih:=VN s hs f (ZP s line a) (zF s a+(zM s a).sz) hm.2 hln2;generalize scanS s f (ZP s line a) (zF s a+(zM s a).sz)=A at he0 ih ⊢
    by_cases hA:A.2.2≠0
    ·rw [if_pos hA] at he0;exact absurd he0 hA
    ·rw [if_neg hA] at he0 ⊢
     have i1:=ih (by omega)
     refine ⟨hat,hpt,?_⟩;cases hA1:A.1 with
     | nil=>trivial
     | cons t ts =>
      rw [hA1] at i1;refine ⟨?_,i1.2⟩;have h9:zF s a+(zM s a).sz≤t.at0:=i1.1;show zF s a≤t.at0
      omega
theorem uR (s:List UInt8):∀(f line a:Nat),a≤s.length→s.length<a+f→(scanS s f line a).2.2=0→∃ts line',(scanS s f line a).1=ts++[⟨0,[],0,line',s.length⟩]
 | 0,_,_,h1,h2,_=>by omega
 | f+1,line,a,ha,hf,he0=>by
  have hp:=XN ha;rw [scanS] at he0 ⊢
  by_cases he:(zM s a).e≠0
  ·rw [if_pos he] at he0;exact absurd he0 he
  ·rw [if_neg he] at he0 ⊢
   have he1:(zM s a).e=0:=by omega
   by_cases hk:(zM s a).k=0
   ·rw [if_pos hk] at he0 ⊢
    have h9:=(vS (s.drop (zF s a)) he1).2.2 hk;have hl:=congrArg List.length h9;rw [List.length_drop,List.length_nil] at hl;have hpe:zF s a=s.length:=by omega
    have hn:zM s a=⟨0,[],0,0,0⟩:=by
     show zR (s.drop (zF s a))=_
     rw [h9];rfl
    refine ⟨[],ZP s line a,?_⟩
    unfold tkT
    rw [hn,hpe]
    rfl
   ·rw [if_neg hk] at he0 ⊢
    have hm:=Ys ha he1 hk;have ih:=uR s f (ZP s line a) (zF s a+(zM s a).sz) hm.2 (by omega)
    generalize scanS s f (ZP s line a) (zF s a+(zM s a).sz)=A at he0 ih ⊢
    by_cases hA:A.2.2≠0
    ·rw [if_pos hA] at he0;exact absurd he0 hA
    ·rw [if_neg hA] at he0 ⊢
     obtain ⟨ts,line',i1⟩:=ih (by omega)
     exact ⟨tkT s line a::ts,line',by rw [i1];rfl⟩
theorem za3 (s:List UInt8) (f line a:Nat) (h:(scanS s f line a).2.2≠0):(scanS s f line a).1=[]:=by
 cases f with
 | zero=>rfl
 | succ f =>
  rw [scanS] at h ⊢
  by_cases he:(zM s a).e≠0
  ·rw [if_pos he]
  ·rw [if_neg he] at h ⊢
   by_cases hk:(zM s a).k=0
   ·rw [if_pos hk] at h;exact absurd rfl h
   ·rw [if_neg hk] at h ⊢
    generalize scanS s f (ZP s line a) (zF s a+(zM s a).sz)=A at h ⊢
    by_cases hA:A.2.2≠0
    ·rw [if_pos hA]
    ·rw [if_neg hA] at h;exact absurd rfl h
theorem VO (s:List UInt8):((zv s).2.2≠0→(zv s).1=[])∧((zv s).2.2=0→s.length≤4096∧qB s 0 (zv s).1∧∃ts line',(zv s).1=ts++[⟨0,[],0,line',s.length⟩]):=by
 unfold zv
 by_cases h:4096<s.length
 ·rw [if_pos h]
  exact ⟨fun _=>rfl,fun h=>by simp at h⟩
 ·rw [if_neg h]
  refine ⟨za3 s _ 1 0,fun he=>⟨by omega,VN s (by omega) _ 1 0 (Nat.zero_le _) (by simp [Lib.countByte]) he,uR s _ 1 0 (Nat.zero_le _) (by omega) he⟩⟩
end Go.Proofs.YtdgpapchkpnijaaGreatDoor
