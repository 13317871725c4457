import Derived.Test.YtpejpbbdgblbeaaGreatDoorMC4
import Derived.Test.YtpejpbbdgblbeaaGreatDoorMC7
import Derived.Test.YtpejpbbdgblbeaaGreatDoorMC6
namespace Go.Proofs.YtpejpbbdgblbeaaGreatDoor
open Go.RowKit
theorem xJ {p:UInt8→Bool} (z:List UInt8):∀r:List UInt8,(r.takeWhile p).length=r.length→(r++z).takeWhile p=r++z.takeWhile p
 | [],_=>rfl
 | y::r,h=>by
  rw [List.cons_append]
  by_cases hy:p y=true
  ·rw [List.takeWhile_cons_of_pos hy] at h ⊢
   rw [xJ z r (by simpa using h)];rfl
  ·rw [List.takeWhile_cons_of_neg hy] at h;simp at h
theorem y6 {p:UInt8→Bool}:∀r:List UInt8,(∀x∈r,p x=true)→r.takeWhile p=r
 | [],_=>rfl
 | y::r,h=>by rw [List.takeWhile_cons_of_pos (h y (List.mem_cons_self ..)),y6 r (fun x hx=>h x (List.mem_cons_of_mem _ hx))]
theorem zce (n:Nat) (r:List UInt8):Z5 Zd (List.replicate n 10++r)=n+Z5 Zd r:=by
 unfold Z5
 rw [xJ _ _ (by rw [y6 _ (fun x hx=>by rw [(List.mem_replicate.1 hx).2];decide)]),List.length_append,List.length_replicate]
theorem zcf (n:Nat) (r:List UInt8):yJ (List.replicate n 10++r)=n+yJ r:=by
 rw [uc,uc r,zce,List.drop_append,List.drop_of_length_le (by simp),List.nil_append,List.length_replicate,Nat.add_sub_cancel_left,Nat.add_assoc]
theorem zdl {l:List UInt8} {line a:Nat} (hl:line≤a+1):ZF l line a≤zC l a+1:=by
 unfold ZF zC
 have:=uu ((l.drop a).take (yJ (l.drop a))) 10
 have h:((l.drop a).take (yJ (l.drop a))).length≤yJ (l.drop a):=List.length_take_le ..;omega
theorem VQ (l:List UInt8):∀(f line a:Nat),a≤l.length→line≤a+1→(scanS l f line a).2.1≤l.length∧∀t∈(scanS l f line a).1,t.line≤l.length+1∧t.at0≤l.length
 | 0,_,_,_,_=>⟨Nat.zero_le _,fun t h=>by cases h⟩
 | f+1,line,a,ha,hl=>by
  have z:=xS ha;have H:=zdl (l:=l) hl
  have o:(tkT l line a).line≤l.length+1∧(tkT l line a).at0≤l.length:=by
   show ZF l line a≤l.length+1∧zC l a≤l.length
   omega
  rw [scanS]
  by_cases he:(zG l a).e≠0
  ·rw [if_pos he];exact ⟨z,fun t h=>by cases h⟩
  ·rw [if_neg he]
   have s:(zG l a).e=0:=by omega
   by_cases hk:(zG l a).k=0
   ·rw [if_pos hk];exact ⟨Nat.zero_le _,fun t h=>by rw [List.mem_singleton] at h;rw [h];exact o⟩
   ·rw [if_neg hk]
    have D:=yM ha s hk;have G:=(vU (l.drop (a+yJ (l.drop a))) s).2.1 hk;have y:=VQ l f (ZF l line a) (zC l a+(zG l a).sz) D.2 (by omega)
    generalize scanS l f (ZF l line a) (zC l a+(zG l a).sz)=A at y ⊢
    by_cases hA:A.2.2≠0
    ·rw [if_pos hA];exact ⟨y.1,fun t h=>by cases h⟩
    ·rw [if_neg hA]
     refine ⟨Nat.zero_le _,fun t h=>?_⟩
     rcases List.mem_cons.1 h with h | h
     ·rw [h];exact o
     ·exact y.2 t h
theorem Qv (l:List UInt8):(zM l).2.1≤l.length∧∀t∈(zM l).1,t.line≤l.length+1∧t.at0≤l.length:=by
 unfold zM
 split
 ·exact ⟨Nat.zero_le _,fun t h=>by cases h⟩
 ·exact VQ l _ 1 0 (Nat.zero_le _) (Nat.le_refl _)
end Go.Proofs.YtpejpbbdgblbeaaGreatDoor
namespace Go.Proofs.YtpejpbbdgblbeaaGreatDoor
open Go.RowKit Go.Shelf
def okC (c:UInt8):Bool:=c.toNat==10||(decide (32≤c.toNat)&&decide (c.toNat≤126))
def Xa (s:List UInt8):Bool:=s.all okC&&decide (s.length≤255)
theorem qy (c:UInt8):okC c=true↔(c.toNat=10∨(32≤c.toNat∧c.toNat≤126)):=by
 unfold okC;simp
theorem zdm {c:UInt8} (h:okC c=true) (t:List UInt8):vu (Zl c++t)=(c.toNat,(Zl c).length)∧(Zl c++t).head?≠some 34∧1≤(Zl c).length:=by
 rw [qy] at h
 unfold Zl
 by_cases h1:c.toNat=92
 ·rw [if_pos h1,h1]
  exact ⟨rfl,by simp,by decide⟩
 ·rw [if_neg h1]
  by_cases h2:c.toNat=34
  ·rw [if_pos h2,h2]
   exact ⟨rfl,by simp,by decide⟩
  ·rw [if_neg h2]
   by_cases h3:c.toNat=10
   ·rw [if_pos h3,h3]
    exact ⟨rfl,by simp,by decide⟩
   ·rw [if_neg h3]
    refine ⟨?_,?_,by simp⟩
    ·rw [List.cons_append,uf (by omega) h1];rfl
    ·intro e
     simp at e
     rw [e] at h2;exact h2 rfl
theorem zew {c:UInt8} (h:okC c=false) (t:List UInt8):Zl c=[c]∧vu (c::t)=(0,0)∧c.toNat≠34:=by
 have o:¬ (c.toNat=10∨(32≤c.toNat∧c.toNat≤126)):=fun e=>by rw [(qy c).2 e] at h;cases h
 refine ⟨?_,ue (by omega),by omega⟩
 unfold Zl
 rw [if_neg (by omega),if_neg (by omega),if_neg (by omega)]
theorem uB (c:UInt8):c.toNat.toUInt8=c:=UInt8.toNat_inj.1 (Lib.toUInt8_toNat (UInt8.toNat_lt c))
theorem Xb {f:Nat} {meant t:List UInt8} {at0:Nat} {x:UInt8} {r:List UInt8} (h34:x.toNat≠34) {c sz:Nat} (htb:vu (x::r)=(c,sz)) (hsz:sz≠0) (hd:(x::r).drop sz=t) :
  Zj (f+1) meant at0 (x::r)=if meant.length=255 then ⟨0,[],0,0,5⟩ else Zj f (meant++[c.toUInt8]) (at0+sz) t:=by
 conv=>lhs;unfold Zj
 rw [if_neg h34,htb,if_neg hsz];simp only [hd]
theorem UW (t:List UInt8):∀(s meant:List UInt8) (f at0:Nat),(s.flatMap Zl).length<f→s.all okC=true→meant.length+s.length≤255 →
  Zj f meant at0 (s.flatMap Zl++34::t)=⟨3,meant++s,0,at0+(s.flatMap Zl).length+1,0⟩
 | [],meant,f,at0,hf,_,_=>by
  obtain ⟨f,rfl⟩:∃g,f=g+1:=⟨f-1,by simp at hf;omega⟩
  simp only [List.flatMap_nil,List.nil_append,List.append_nil,List.length_nil,Nat.add_zero]
  unfold Zj
  rw [if_pos (by decide)]
 | c::s,meant,f,at0,hf,hok,hl=>by
  rw [List.all_cons,Bool.and_eq_true] at hok;rw [List.flatMap_cons,List.length_append] at hf;rw [List.length_cons] at hl;obtain ⟨f,rfl⟩:∃g,f=g+1:=⟨f-1,by omega⟩
  obtain ⟨z,A,G⟩:=zdm hok.1 (s.flatMap Zl++34::t);have o:(c::s).flatMap Zl++34::t=Zl c++(s.flatMap Zl++34::t):=by rw [List.flatMap_cons,List.append_assoc]
  have D:=UW t s (meant++[c]) f (at0+(Zl c).length) (by omega) hok.2 (by rw [List.length_append,List.length_singleton];omega)
  rw [o]
  obtain ⟨x,r,h⟩:∃x r,Zl c++(s.flatMap Zl++34::t)=x::r:=by
   cases h9:Zl c++(s.flatMap Zl++34::t) with
   | nil =>
    have:=congrArg List.length h9
    rw [List.length_append,List.length_nil] at this;omega
   | cons x r=>exact ⟨x,r,rfl⟩
  have y:(x::r).drop (Zl c).length=s.flatMap Zl++34::t:=by rw [←h,List.drop_left]
  rw [h] at z A;rw [h,Xb (fun e=>A (by rw [List.head?_cons,show x=34 from UInt8.toNat_inj.1 e])) z (by omega) y,if_neg (by omega),uB,D,List.flatMap_cons,List.length_append]
  simp only [TR.mk.injEq,List.append_assoc,List.singleton_append,true_and,and_true];omega
theorem XY (t:List UInt8):∀(s meant:List UInt8) (f at0:Nat),meant.length≤255→(s.all okC=false∨255<meant.length+s.length)→(Zj f meant at0 (s.flatMap Zl++34::t)).e≠0
 | [],meant,f,at0,hm,h=>by
  rcases h with h | h
  ·simp at h
  ·simp at h;omega
 | c::s,meant,0,at0,hm,h=>by
  show (Zj 0 _ _ _).e≠0
  unfold Zj
  simp
 | c::s,meant,f+1,at0,hm,h=>by
  have y:(c::s).flatMap Zl++34::t=Zl c++(s.flatMap Zl++34::t):=by rw [List.flatMap_cons,List.append_assoc]
  rw [y];cases hok:okC c with
  | false =>
   obtain ⟨z,A,G⟩:=zew hok (s.flatMap Zl++34::t);rw [z,List.singleton_append]
   unfold Zj
   rw [if_neg G,A,if_pos rfl]
   simp
  | true =>
   obtain ⟨z,A,G⟩:=zdm hok (s.flatMap Zl++34::t)
   obtain ⟨x,r,o⟩:∃x r,Zl c++(s.flatMap Zl++34::t)=x::r:=by
    cases h9:Zl c++(s.flatMap Zl++34::t) with
    | nil =>
     have:=congrArg List.length h9
     rw [List.length_append,List.length_nil] at this;omega
    | cons x r=>exact ⟨x,r,rfl⟩
   have D:(x::r).drop (Zl c).length=s.flatMap Zl++34::t:=by rw [←o,List.drop_left]
   rw [o] at z A;rw [o,Xb (fun e=>A (by rw [List.head?_cons,show x=34 from UInt8.toNat_inj.1 e])) z (by omega) D]
   by_cases h255:meant.length=255
   ·rw [if_pos h255];simp
   ·rw [if_neg h255]
    refine XY t s _ f _ (by rw [List.length_append,List.length_singleton];omega) ?_
    rcases h with h | h
    ·rw [List.all_cons,hok,Bool.true_and] at h;exact .inl h
    ·rw [List.length_cons] at h;right;rw [List.length_append,List.length_singleton];omega
theorem uC (s t:List UInt8) (hp:Xa s=true):Zg (yj s++t)=⟨3,s,0,(yj s).length,0⟩:=by
 unfold Xa at hp
 rw [Bool.and_eq_true,decide_eq_true_eq] at hp;have o:yj s++t=34::(s.flatMap Zl++34::t):=by unfold yj;simp
 have h:(yj s).length=(s.flatMap Zl).length+2:=by unfold yj;simp
 rw [o];have y:Zg (34::(s.flatMap Zl++34::t))=yK (34::(s.flatMap Zl++34::t)):=rfl;rw [y]
 unfold yK
 rw [List.drop_succ_cons,List.drop_zero,UW t s [] _ 1 (by simp;omega) hp.1 (by simp;omega),h]
 simp only [List.nil_append,TR.mk.injEq,true_and,and_true];omega
theorem uD (s:List UInt8) (hp:Xa s=false):(Zg (yj s)).e≠0:=by
 have o:yj s=34::(s.flatMap Zl++34::[]):=rfl;rw [o];have y:Zg (34::(s.flatMap Zl++34::[]))=yK (34::(s.flatMap Zl++34::[])):=rfl;rw [y]
 unfold yK
 rw [List.drop_succ_cons,List.drop_zero];refine XY [] s [] _ 1 (by simp) ?_
 unfold Xa at hp
 rw [Bool.and_eq_false_iff] at hp;rcases hp with h | h
 ·exact .inl h
 ·right
  rw [decide_eq_false_iff_not] at h
  simp
  omega
theorem vz:∀(f:Nat) (meant:List UInt8) (at0:Nat) (r:List UInt8),meant.length≤255→(Zj f meant at0 r).e=0 →
  ∃o rest,(Zj f meant at0 r).s=meant++o∧r=o.flatMap Zl++34::rest∧o.all okC=true∧(meant++o).length≤255
 | 0,_,_,_,_,h=>by simp [Zj] at h
 | _+1,_,_,[],_,h=>by simp [Zj] at h
 | f+1,meant,at0,x::r,hm,h=>by
  by_cases h1:x.toNat=34
  ·have N:x=34:=UInt8.toNat_inj.1 h1
   refine ⟨[],r,?_,?_,rfl,by simpa using hm⟩
   ·unfold Zj;rw [if_pos h1];simp
   ·rw [N];rfl
  ·by_cases hbad:x.toNat<32∨126<x.toNat
   ·unfold Zj at h
    rw [if_neg h1,ue hbad,if_pos rfl] at h
    simp at h
   ·by_cases h92:x.toNat=92
    ·cases r with
     | nil =>
      unfold Zj at h
      rw [if_neg h1,qr hbad h92,if_pos rfl] at h
      simp at h
     | cons y t =>
      have A:vu (x::y::t)=tbE y.toNat:=qs hbad h92;have N:x=92:=UInt8.toNat_inj.1 h92
      have D:∀c:Nat,c<256→okC c.toUInt8=true→Zl c.toUInt8=[92,y]→tbE y.toNat=(c,2)→∃o rest,(Zj (f+1) meant at0 (x::y::t)).s=meant++o∧x::y::t=o.flatMap Zl++34::rest∧o.all okC=true∧(meant++o).length≤255:=by
       intro c R I z G;rw [G] at A;have H:=Xb (f:=f) (meant:=meant) (at0:=at0) h1 A (by decide) rfl
       rw [H] at h ⊢
       by_cases h255:meant.length=255
       ·rw [if_pos h255] at h;simp at h
       ·rw [if_neg h255] at h ⊢
        obtain ⟨o,rest,L,Q,O,K⟩:=vz f _ _ _ (by rw [List.length_append,List.length_singleton];omega) h
        refine ⟨c.toUInt8::o,rest,by rw [L];simp,?_,by rw [List.all_cons,I,O];rfl,by simpa using K⟩
        rw [List.flatMap_cons,z,List.append_assoc,←Q,N]
        rfl
      by_cases y92:y.toNat=92
      ·have J:y=92:=UInt8.toNat_inj.1 y92
       exact D 92 (by decide) (by decide) (by rw [J];decide) (by rw [y92];rfl)
      ·by_cases y34:y.toNat=34
       ·have J:y=34:=UInt8.toNat_inj.1 y34
        exact D 34 (by decide) (by decide) (by rw [J];decide) (by rw [y34];rfl)
       ·by_cases y110:y.toNat=110
        ·have J:y=110:=UInt8.toNat_inj.1 y110
         exact D 10 (by decide) (by decide) (by rw [J];decide) (by rw [y110];rfl)
        ·have G:tbE y.toNat=(0,0):=by unfold tbE;rw [if_neg y92,if_neg y34,if_neg y110]
         unfold Zj at h
         rw [if_neg h1,A,G,if_pos rfl] at h
         simp at h
    ·have A:vu (x::r)=(x.toNat,1):=uf hbad h92
     have H:=Xb (f:=f) (meant:=meant) (at0:=at0) h1 A (by decide) rfl
     rw [H] at h ⊢
     by_cases h255:meant.length=255
     ·rw [if_pos h255] at h;simp at h
     ·rw [if_neg h255,uB] at h ⊢
      obtain ⟨o,rest,L,Q,O,K⟩:=vz f _ _ _ (by rw [List.length_append,List.length_singleton];omega) h
      have I:okC x=true:=(qy x).2 (.inr (by omega))
      have z:Zl x=[x]:=by unfold Zl;rw [if_neg h92,if_neg h1,if_neg (by omega)]
      refine ⟨x::o,rest,by rw [L];simp,?_,by rw [List.all_cons,I,O];rfl,by simpa using K⟩
      rw [List.flatMap_cons,z,List.append_assoc,←Q]
      rfl
theorem VR (a b:List UInt8):zb a++zb b=zb (a++b):=by
 apply ByteArray.ext
 rw [ByteArray.data_append]
 unfold zb
 simp
theorem UX (c:UInt8):∀(l:List UInt8) (a:Nat),valA a (l++[c])=valA a l*10+(c.toNat-48)
 | [],_=>rfl
 | x::l,a=>UX c l (a*10+(x.toNat-48))
end Go.Proofs.YtpejpbbdgblbeaaGreatDoor
namespace Go.Proofs.YtpejpbbdgblbeaaGreatDoor
open Go.RowKit
theorem VS (a b:List UInt8) (c:UInt8):Lib.countByte (a++b) c=Lib.countByte a c+Lib.countByte b c:=by
 unfold Lib.countByte
 exact List.count_append
theorem Qw (l:List UInt8):∀(xs:List (List UInt8)) (b:List UInt8),b.length≤(xs.foldl (longer l) b).length∧(∀x∈xs,Lib.hasPrefix l x=true→x.length≤(xs.foldl (longer l) b).length) ∧
  (xs.foldl (longer l) b=b∨(xs.foldl (longer l) b∈xs∧Lib.hasPrefix l (xs.foldl (longer l) b)=true))
 | [],b=>⟨Nat.le_refl _,(fun x h=>by cases h),.inl rfl⟩
 | x::xs,b=>by
  rw [List.foldl_cons];obtain ⟨z,G,A⟩:=Qw l xs (longer l b x)
  have H:b.length≤(longer l b x).length:=by
   unfold longer
   split
   ·rename_i h;omega
   ·exact Nat.le_refl _
  refine ⟨Nat.le_trans H z,fun y s hp=>?_,?_⟩
  ·rcases List.mem_cons.1 s with rfl | s
   ·refine Nat.le_trans ?_ z
    unfold longer
    split
    ·exact Nat.le_refl _
    ·rename_i h
     rcases Nat.lt_or_ge b.length y.length with o | o
     ·exact absurd ⟨o,hp⟩ h
     ·exact o
   ·exact G y s hp
  ·rcases A with h | ⟨D,I⟩
   ·rw [h]
    unfold longer
    split
    ·rename_i o;exact .inr ⟨List.mem_cons_self ..,o.2⟩
    ·exact .inl rfl
   ·exact .inr ⟨List.mem_cons_of_mem _ D,I⟩
theorem Qx (l:List UInt8):(∀x∈signsL,Lib.hasPrefix l x=true→x.length≤(bestS l 25).length)∧(bestS l 25=[]∨(bestS l 25∈signsL∧Lib.hasPrefix l (bestS l 25)=true)):=by
 have h:=Qw l signsL [];have e:bestS l 25=signsL.foldl (longer l) []:=by unfold bestS;rw [List.take_of_length_le (by decide)]
 rw [e];exact h.2
end Go.Proofs.YtpejpbbdgblbeaaGreatDoor
