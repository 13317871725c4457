import Derived.Test.YtmbofhpmockmbaaGreatDoorMC21
import Derived.Test.YtmbofhpmockmbaaGreatDoorMC38
import Derived.Test.YtmbofhpmockmbaaGreatDoorMC40
import Derived.Deep.RegionHeld3
import Derived.Deep.RegionWith
namespace Go.Proofs.YtmbofhpmockmbaaGreatDoor
open Go.RowKit Go.Shelf
set_option maxHeartbeats 16000000
set_option maxRecDepth 100000
def U6 (c:UInt8):Bool:=c.toNat==10||(decide (32≤c.toNat)&&decide (c.toNat≤126))
def YH (s:List UInt8):Bool:=s.all U6&&decide (s.length≤255)
theorem VX (c:UInt8):U6 c=true↔(c.toNat=10∨(32≤c.toNat∧c.toNat≤126)):=by
 unfold U6;simp
theorem Q0 {c:UInt8} (h:U6 c=true) (t:List UInt8):Ym (Zn c++t)=(c.toNat,(Zn c).length)∧(Zn c++t).head?≠some 34∧1≤(Zn c).length:=by
 rw [VX] at h
 unfold Zn
 by_cases h1:c.toNat=92
 ·rw [if_pos h1,h1]
  exact ⟨rfl,by simp,by decide⟩
 ·rw [if_neg h1]
  by_cases h2:c.toNat=34
  ·rw [if_pos h2,h2]
   exact ⟨rfl,by simp,by decide⟩
  ·rw [if_neg h2]
   by_cases h3:c.toNat=10
   ·rw [if_pos h3,h3]
    exact ⟨rfl,by simp,by decide⟩
   ·rw [if_neg h3]
    refine ⟨?_,?_,by simp⟩
    ·rw [List.cons_append,xI (by omega) h1];rfl
    ·intro e
     simp at e
     rw [e] at h2;exact h2 rfl
theorem zaB {c:UInt8} (h:U6 c=false) (t:List UInt8):Zn c=[c]∧Ym (c::t)=(0,0)∧c.toNat≠34:=by
 have o:¬ (c.toNat=10∨(32≤c.toNat∧c.toNat≤126)):=fun e=>by rw [(VX c).2 e] at h;cases h
 refine ⟨?_,xH (by omega),by omega⟩
 unfold Zn
 rw [if_neg (by omega),if_neg (by omega),if_neg (by omega)]
theorem X4 (c:UInt8):c.toNat.toUInt8=c:=UInt8.toNat_inj.1 (Lib.toUInt8_toNat (UInt8.toNat_lt c))
theorem YI {f:Nat} {meant t:List UInt8} {at0:Nat} {x:UInt8} {r:List UInt8} (h34:x.toNat≠34) {c sz:Nat} (htb:Ym (x::r)=(c,sz)) (hsz:sz≠0) (hd:(x::r).drop sz=t) :
  zz (f+1) meant at0 (x::r)=if meant.length=255 then ⟨0,[],0,0,5⟩ else zz f (meant++[c.toUInt8]) (at0+sz) t:=by
 conv=>lhs;unfold zz
 rw [if_neg h34,htb,if_neg hsz];simp only [hd]
theorem Vw (t:List UInt8):∀(s meant:List UInt8) (f at0:Nat),(s.flatMap Zn).length<f→s.all U6=true→meant.length+s.length≤255 →
  zz f meant at0 (s.flatMap Zn++34::t)=⟨3,meant++s,0,at0+(s.flatMap Zn).length+1,0⟩
 | [],meant,f,at0,hf,_,_=>by
  obtain ⟨f,rfl⟩:∃g,f=g+1:=⟨f-1,by simp at hf;omega⟩
  simp only [List.flatMap_nil,List.nil_append,List.append_nil,List.length_nil,Nat.add_zero]
  unfold zz
  rw [if_pos (by decide)]
 | c::s,meant,f,at0,hf,hok,hl=>by
  rw [List.all_cons,Bool.and_eq_true] at hok;rw [List.flatMap_cons,List.length_append] at hf;rw [List.length_cons] at hl;obtain ⟨f,rfl⟩:∃g,f=g+1:=⟨f-1,by omega⟩
  obtain ⟨A,z,E⟩:=Q0 hok.1 (s.flatMap Zn++34::t);have o:(c::s).flatMap Zn++34::t=Zn c++(s.flatMap Zn++34::t):=by rw [List.flatMap_cons,List.append_assoc]
  have D:=Vw t s (meant++[c]) f (at0+(Zn c).length) (by omega) hok.2 (by rw [List.length_append,List.length_singleton];omega)
  rw [o]
  obtain ⟨x,r,h⟩:∃x r,Zn c++(s.flatMap Zn++34::t)=x::r:=by
   cases h9:Zn c++(s.flatMap Zn++34::t) with
   | nil =>
    have:=congrArg List.length h9
    rw [List.length_append,List.length_nil] at this;omega
   | cons x r=>exact ⟨x,r,rfl⟩
  have y:(x::r).drop (Zn c).length=s.flatMap Zn++34::t:=by rw [←h,List.drop_left]
  rw [h] at A z;rw [h,YI (fun e=>z (by rw [List.head?_cons,show x=34 from UInt8.toNat_inj.1 e])) A (by omega) y,if_neg (by omega),X4,D,List.flatMap_cons,List.length_append]
  simp only [TR.mk.injEq,List.append_assoc,List.singleton_append,true_and,and_true];omega
theorem xr (t:List UInt8):∀(s meant:List UInt8) (f at0:Nat),meant.length≤255→(s.all U6=false∨255<meant.length+s.length)→(zz f meant at0 (s.flatMap Zn++34::t)).e≠0
 | [],meant,f,at0,hm,h=>by
  rcases h with h | h
  ·simp at h
  ·simp at h;omega
 | c::s,meant,0,at0,hm,h=>by
  show (zz 0 _ _ _).e≠0
  unfold zz
  simp
 | c::s,meant,f+1,at0,hm,h=>by
  have y:(c::s).flatMap Zn++34::t=Zn c++(s.flatMap Zn++34::t):=by rw [List.flatMap_cons,List.append_assoc]
  rw [y];cases hok:U6 c with
  | false =>
   obtain ⟨A,z,E⟩:=zaB hok (s.flatMap Zn++34::t);rw [A,List.singleton_append]
   unfold zz
   rw [if_neg E,z,if_pos rfl]
   simp
  | true =>
   obtain ⟨A,z,E⟩:=Q0 hok (s.flatMap Zn++34::t)
   obtain ⟨x,r,o⟩:∃x r,Zn c++(s.flatMap Zn++34::t)=x::r:=by
    cases h9:Zn c++(s.flatMap Zn++34::t) with
    | nil =>
     have:=congrArg List.length h9
     rw [List.length_append,List.length_nil] at this;omega
    | cons x r=>exact ⟨x,r,rfl⟩
   have D:(x::r).drop (Zn c).length=s.flatMap Zn++34::t:=by rw [←o,List.drop_left]
   rw [o] at A z;rw [o,YI (fun e=>z (by rw [List.head?_cons,show x=34 from UInt8.toNat_inj.1 e])) A (by omega) D]
   by_cases h255:meant.length=255
   ·rw [if_pos h255];simp
   ·rw [if_neg h255]
    refine xr t s _ f _ (by rw [List.length_append,List.length_singleton];omega) ?_
    rcases h with h | h
    ·rw [List.all_cons,hok,Bool.true_and] at h;exact .inl h
    ·rw [List.length_cons] at h;right;rw [List.length_append,List.length_singleton];omega
theorem X5 (s t:List UInt8) (hp:YH s=true):zF (ZY s++t)=⟨3,s,0,(ZY s).length,0⟩:=by
 unfold YH at hp
 rw [Bool.and_eq_true,decide_eq_true_eq] at hp;have h:ZY s++t=34::(s.flatMap Zn++34::t):=by unfold ZY;simp
 have e:(ZY s).length=(s.flatMap Zn).length+2:=by unfold ZY;simp
 rw [h];have o:zF (34::(s.flatMap Zn++34::t))=zQ (34::(s.flatMap Zn++34::t)):=rfl;rw [o]
 unfold zQ
 rw [List.drop_succ_cons,List.drop_zero,Vw t s [] _ 1 (by simp;omega) hp.1 (by simp;omega),e]
 simp only [List.nil_append,TR.mk.injEq,true_and,and_true];omega
theorem X6 (s:List UInt8) (hp:YH s=false):(zF (ZY s)).e≠0:=by
 have o:ZY s=34::(s.flatMap Zn++34::[]):=rfl;rw [o];have y:zF (34::(s.flatMap Zn++34::[]))=zQ (34::(s.flatMap Zn++34::[])):=rfl;rw [y]
 unfold zQ
 rw [List.drop_succ_cons,List.drop_zero];refine xr [] s [] _ 1 (by simp) ?_
 unfold YH at hp
 rw [Bool.and_eq_false_iff] at hp;rcases hp with h | h
 ·exact .inl h
 ·right
  rw [decide_eq_false_iff_not] at h
  simp
  omega
theorem xC:∀(f:Nat) (meant:List UInt8) (at0:Nat) (r:List UInt8),meant.length≤255→(zz f meant at0 r).e=0 →
  ∃o rest,(zz f meant at0 r).s=meant++o∧r=o.flatMap Zn++34::rest∧o.all U6=true∧(meant++o).length≤255
 | 0,_,_,_,_,h=>by simp [zz] at h
 | _+1,_,_,[],_,h=>by simp [zz] at h
 | f+1,meant,at0,x::r,hm,h=>by
  by_cases h1:x.toNat=34
  ·have K:x=34:=UInt8.toNat_inj.1 h1
   refine ⟨[],r,?_,?_,rfl,by simpa using hm⟩
   ·unfold zz;rw [if_pos h1];simp
   ·rw [K];rfl
  ·by_cases hbad:x.toNat<32∨126<x.toNat
   ·unfold zz at h
    rw [if_neg h1,xH hbad,if_pos rfl] at h
    simp at h
   ·by_cases h92:x.toNat=92
    ·cases r with
     | nil =>
      unfold zz at h
      rw [if_neg h1,Xv hbad h92,if_pos rfl] at h
      simp at h
     | cons y t =>
      have A:Ym (x::y::t)=qz y.toNat:=Xw hbad h92;have K:x=92:=UInt8.toNat_inj.1 h92
      have G:∀c:Nat,c<256→U6 c.toUInt8=true→Zn c.toUInt8=[92,y]→qz y.toNat=(c,2)→∃o rest,(zz (f+1) meant at0 (x::y::t)).s=meant++o∧x::y::t=o.flatMap Zn++34::rest∧o.all U6=true∧(meant++o).length≤255:=by
       intro c N E z H;rw [H] at A;have D:=YI (f:=f) (meant:=meant) (at0:=at0) h1 A (by decide) rfl
       rw [D] at h ⊢
       by_cases h255:meant.length=255
       ·rw [if_pos h255] at h;simp at h
       ·rw [if_neg h255] at h ⊢
        obtain ⟨o,rest,i1,J,M,L⟩:=xC f _ _ _ (by rw [List.length_append,List.length_singleton];omega) h
        refine ⟨c.toUInt8::o,rest,by rw [i1];simp,?_,by rw [List.all_cons,E,M];rfl,by simpa using L⟩
        rw [List.flatMap_cons,z,List.append_assoc,←J,K]
        rfl
      by_cases y92:y.toNat=92
      ·have I:y=92:=UInt8.toNat_inj.1 y92
       exact G 92 (by decide) (by decide) (by rw [I];decide) (by rw [y92];rfl)
      ·by_cases y34:y.toNat=34
       ·have I:y=34:=UInt8.toNat_inj.1 y34
        exact G 34 (by decide) (by decide) (by rw [I];decide) (by rw [y34];rfl)
       ·by_cases y110:y.toNat=110
        ·have I:y=110:=UInt8.toNat_inj.1 y110
         exact G 10 (by decide) (by decide) (by rw [I];decide) (by rw [y110];rfl)
        ·have H:qz y.toNat=(0,0):=by unfold qz;rw [if_neg y92,if_neg y34,if_neg y110]
         unfold zz at h
         rw [if_neg h1,A,H,if_pos rfl] at h
         simp at h
    ·have A:Ym (x::r)=(x.toNat,1):=xI hbad h92
     have D:=YI (f:=f) (meant:=meant) (at0:=at0) h1 A (by decide) rfl
     rw [D] at h ⊢
     by_cases h255:meant.length=255
     ·rw [if_pos h255] at h;simp at h
     ·rw [if_neg h255,X4] at h ⊢
      obtain ⟨o,rest,i1,J,M,L⟩:=xC f _ _ _ (by rw [List.length_append,List.length_singleton];omega) h
      have E:U6 x=true:=(VX x).2 (.inr (by omega))
      have z:Zn x=[x]:=by unfold Zn;rw [if_neg h92,if_neg h1,if_neg (by omega)]
      refine ⟨x::o,rest,by rw [i1];simp,?_,by rw [List.all_cons,E,M];rfl,by simpa using L⟩
      rw [List.flatMap_cons,z,List.append_assoc,←J]
      rfl
theorem U7 (u:Nat):∀c∈Lib.decDigits u,zE c.toNat=true:=by
 induction u using Nat.strongRecOn with
 | _ u ih =>
  have o:∀d:Nat,d<10→zE (UInt8.ofNat (48+d)).toNat=true:=by decide
  intro c e;rw [Lib.decDigits] at e
  by_cases h:u<10
  ·rw [dif_pos h,List.mem_singleton] at e
   rw [e];exact o u h
  ·rw [dif_neg h,List.mem_append,List.mem_singleton] at e
   rcases e with e | e
   ·exact ih (u / 10) (by omega) c e
   ·rw [e];exact o (u % 10) (by omega)
theorem zaX (u:Nat):Lib.decDigits u≠[]:=by
 intro h
 have:=congrArg List.length h
 rw [Lib.decDigits_length,List.length_nil] at this
 have:=Lib.nDigits_pos u
 omega
theorem zaC (u:Nat):valA 0 (Lib.decDigits u)=u:=by
 induction u using Nat.strongRecOn with
 | _ u ih =>
  have e:∀d:Nat,d<10→(UInt8.ofNat (48+d)).toNat-48=d:=by decide
  rw [Lib.decDigits]
  by_cases h:u<10
  ·rw [dif_pos h]
   show 0*10+((UInt8.ofNat (48+u)).toNat-48)=u
   rw [e u h];omega
  ·rw [dif_neg h,x8,ih (u / 10) (by omega),e (u % 10) (by omega)]
   omega
theorem Q1 (u:Nat) (t:List UInt8) (ht:∀x∈t.head?,zE x.toNat=false):digL (Lib.decDigits u++t)=Lib.decDigits u:=by
 unfold digL
 rw [xk t _ (by rw [yG _ (U7 u)])]
 cases t with
 | nil=>simp
 | cons x t=>rw [List.takeWhile_cons_of_neg (by rw [ht x rfl];simp),List.append_nil]
theorem Q2 (u:Nat) (hu:u<9223372036854775808) (t:List UInt8) (ht:∀x∈t.head?,zE x.toNat=false):zF (Lib.decDigits u++t)=⟨2,[],u,(Lib.decDigits u).length,0⟩:=by
 obtain ⟨x,r,e⟩:∃x r,Lib.decDigits u=x::r:=by
  cases h:Lib.decDigits u with
  | nil=>exact absurd h (zaX u)
  | cons x r=>exact ⟨x,r,rfl⟩
 have o:zE x.toNat=true:=U7 u x (by rw [e];exact List.mem_cons_self ..)
 have y:zM x.toNat=false:=by
  unfold zE at o
  rw [Bool.and_eq_true,decide_eq_true_eq,decide_eq_true_eq] at o
  unfold zM
  rw [Bool.or_eq_false_iff,Bool.or_eq_false_iff];refine ⟨⟨by rw [beq_eq_false_iff_ne];omega,?_⟩,?_⟩ <;> (rw [Bool.and_eq_false_iff,decide_eq_false_iff_not,decide_eq_false_iff_not];omega)
 have hd:=Q1 u t ht
 have z:zF (Lib.decDigits u++t)=ym (Lib.decDigits u++t):=by
  rw [e,List.cons_append]
  unfold zF
  simp only;rw [if_neg (by rw [y];simp),if_pos o]
 rw [z]
 unfold ym
 rw [hd,zaC,if_pos hu]
theorem uL:∀(f:Nat) (meant:List UInt8) (at0:Nat) (r:List UInt8),(zz f meant at0 r).e=0→(zz f meant at0 r).k=3
 | 0,_,_,_,h=>by simp [zz] at h
 | _+1,_,_,[],h=>by simp [zz] at h
 | f+1,meant,at0,x::r,h=>by
  unfold zz at h ⊢
  by_cases h1:x.toNat=34
  ·rw [if_pos h1]
  ·rw [if_neg h1] at h ⊢
   by_cases h2:(Ym (x::r)).2=0
   ·rw [if_pos h2] at h;simp at h
   ·rw [if_neg h2] at h ⊢
    by_cases h3:meant.length=255
    ·rw [if_pos h3] at h;simp at h
    ·rw [if_neg h3] at h ⊢
     exact uL f _ _ _ h
def xt (s:List UInt8):Bool:=match s with | []=>false | x::r=>zM x.toNat&&r.all (fun c=>ZK c.toNat)&&!ZB s&&decide (s.length≤20)
theorem Vx {s:List UInt8} (h:s.all (fun c=>ZK c.toNat)=true):Zh s=s:=yG s (fun x hx=>List.all_eq_true.1 h x hx)
theorem VY {s:List UInt8} (h:Zh s=s):s.all (fun c=>ZK c.toNat)=true:=by
 rw [List.all_eq_true];intro x e;exact Y6 (p:=fun c=>ZK c.toNat) s x (by rw [←h] at e;exact e)
theorem uM:∀x∈wordsL,∃c r,x=c::r∧zM c.toNat=true∧x.all (fun c=>ZK c.toNat)=true:=by
 intro x e;have y:∀x∈wordsL,x≠[]:=by decide
 have h:∀x∈wordsL,x.all (fun c=>ZK c.toNat)=true:=by decide
 have o:∀x∈wordsL,zM (x.headD 0).toNat=true:=by decide
 cases x with
 | nil=>exact absurd rfl (y _ e)
 | cons c r=>exact ⟨c,r,rfl,o _ e,h _ e⟩
theorem Qc:∀x∈signsL,∃c r,x=c::r∧zM c.toNat=false∧zE c.toNat=false∧c.toNat≠34∧zB c.toNat=false:=by
 intro x e;have o:∀x∈signsL,x≠[]:=by decide
 have h:∀x∈signsL,zM (x.headD 0).toNat=false∧zE (x.headD 0).toNat=false∧(x.headD 0).toNat≠34∧zB (x.headD 0).toNat=false:=by decide
 cases x with
 | nil=>exact absurd rfl (o _ e)
 | cons c r=>exact ⟨c,r,rfl,h _ e⟩
theorem yF {x:UInt8} {r:List UInt8} (h:zM x.toNat=true):zF (x::r)=Zo (x::r):=by
 unfold zF;simp only;rw [if_pos h]
theorem xD {x:UInt8} {r:List UInt8} (h:zM x.toNat=false) (h2:zE x.toNat=true):zF (x::r)=ym (x::r):=by
 unfold zF;simp only;rw [if_neg (by rw [h];simp),if_pos h2]
theorem Xb {x:UInt8} {r:List UInt8} (h:zM x.toNat=false) (h2:zE x.toNat=false) (h3:x.toNat=34):zF (x::r)=zQ (x::r):=by
 unfold zF;simp only;rw [if_neg (by rw [h];simp),if_neg (by rw [h2];simp),if_pos h3]
theorem Yx {x:UInt8} {r:List UInt8} (h:zM x.toNat=false) (h2:zE x.toNat=false) (h3:x.toNat≠34):zF (x::r)=ZQ (x::r):=by
 unfold zF;simp only;rw [if_neg (by rw [h];simp),if_neg (by rw [h2];simp),if_neg h3]
theorem Qd:∀x∈signsL,bestS x 25=x:=by decide +kernel
theorem UO (t:List UInt8):(zF (45::t)).e=0→(zF (45::t)).k=4:=by
 have o:zF (45::t)=ZQ (45::t):=Yx (by decide) (by decide) (by decide)
 rw [o]
 unfold ZQ
 split
 ·intro h;simp at h
 ·intro _;rfl
theorem Q3 {x:List UInt8} (hx:x∈signsL):zF x=⟨4,x,0,x.length,0⟩:=by
 obtain ⟨c,r,rfl,o,h,e,-⟩:=Qc x hx;rw [Yx o h e]
 unfold ZQ
 rw [Qd _ hx,if_neg (by simp)]
theorem zbj {x:List UInt8} (hx:ZB x=true):zF x=⟨5,x,0,x.length,0⟩:=by
 obtain ⟨c,r,rfl,h,e⟩:=uM x (by unfold ZB at hx;exact List.contains_iff_mem.1 hx)
 rw [yF h]
 unfold Zo
 rw [Vx e,if_pos hx]
theorem zaD {x:List UInt8} (hx:xt x=true):zF x=⟨1,x,0,x.length,0⟩:=by
 cases x with
 | nil=>simp [xt] at hx
 | cons c r =>
  unfold xt at hx
  simp only at hx;rw [Bool.and_eq_true,Bool.and_eq_true,Bool.and_eq_true,decide_eq_true_eq] at hx;obtain ⟨⟨⟨o,y⟩,h⟩,A⟩:=hx;have z:(c::r).all (fun c=>ZK c.toNat)=true:=by rw [List.all_cons,y,Bool.and_true];simp [ZK,o]
  rw [yF o]
  unfold Zo
  rw [Vx z,if_neg (by intro e;rw [e] at h;cases h),if_neg (by omega)]
theorem yZ {k n:Int} {s:List UInt8} (h2:k≠2) (h3:k≠3):xp k n s↔(k=0∧s=[]∧n=0)∨(k=1∧xt s=true∧n=0)∨(k=4∧s∈signsL∧n=0)∨(k=5∧ZB s=true∧n=0):=by
 have E:Ue k n s=s:=by unfold Ue;rw [if_neg h2,if_neg h3]
 unfold xp
 rw [E]
 constructor
 ·rintro ⟨z,e,o,y⟩
  cases s with
  | nil=>exact .inl ⟨e.symm,rfl,y.symm⟩
  | cons x r =>
   right
   cases h1:zM x.toNat with
   | true =>
    rw [yF h1] at z e o y
    unfold Zo at z e o y
    by_cases hq:ZB (Zh (x::r))=true
    ·rw [if_pos hq] at z e o y
     simp only at z e o y;rw [o] at hq;exact .inr (.inr ⟨e.symm,hq,y.symm⟩)
    ·rw [if_neg hq] at z e o y
     by_cases h20:20<(Zh (x::r)).length
     ·rw [if_pos h20] at z;simp at z
     ·rw [if_neg h20] at z e o y
      simp only at z e o y;have A:=VY o;rw [o] at hq h20;refine .inl ⟨e.symm,?_,y.symm⟩
      unfold xt
      simp only;rw [List.all_cons,Bool.and_eq_true] at A;rw [h1,A.2,decide_eq_true (by omega)]
      simp [hq]
   | false =>
    cases h4:zE x.toNat with
    | true =>
     rw [xD h1 h4] at z e o y
     unfold ym at z e o y
     split at o
     ·simp at o
     ·simp at o
    | false =>
     by_cases h34:x.toNat=34
     ·rw [Xb h1 h4 h34] at z e
      have:=(uL _ _ _ _ z)
      unfold zQ at e
      rw [this] at e;exact absurd e.symm h3
     ·rw [Yx h1 h4 h34] at z e o y
      unfold ZQ at z e o y
      by_cases hb:bestS (x::r) 25=[]
      ·rw [if_pos hb] at z;simp at z
      ·rw [if_neg hb] at e o y
       simp only at e o y;rcases (xM (x::r)).2 with D | ⟨D,-⟩
       ·exact absurd D hb
       ·rw [o] at D
        exact .inr (.inl ⟨e.symm,D,y.symm⟩)
 ·rintro (⟨rfl,rfl,rfl⟩ | ⟨rfl,h,rfl⟩ | ⟨rfl,h,rfl⟩ | ⟨rfl,h,rfl⟩)
  ·exact ⟨rfl,rfl,rfl,rfl⟩
  ·rw [zaD h];exact ⟨rfl,rfl,rfl,rfl⟩
  ·rw [Q3 h];exact ⟨rfl,rfl,rfl,rfl⟩
  ·rw [zbj h];exact ⟨rfl,rfl,rfl,rfl⟩
theorem Q4 {n:Int} {s:List UInt8} (hn1:n≤9223372036854775807):xp 2 n s↔s=[]∧0≤n:=by
 unfold xp
 have z:Ue 2 n s=Lib.itoa n:=rfl;rw [z]
 unfold Lib.itoa
 by_cases h:n<0
 ·rw [if_pos h]
  constructor
  ·rintro ⟨D,e,-,-⟩
   have:=UO _ D
   rw [this] at e;cases e
  ·rintro ⟨-,A⟩;omega
 ·rw [if_neg h]
  have o:=Q2 n.toNat (by omega) [] (fun x hx=>by simp at hx)
  rw [List.append_nil] at o;rw [o]
  constructor
  ·rintro ⟨-,-,y,-⟩;exact ⟨y.symm,by omega⟩
  ·rintro ⟨rfl,A⟩
   refine ⟨rfl,rfl,rfl,?_⟩;show ((n.toNat:Nat):Int)=n
   omega
theorem Qe {n:Int} {s:List UInt8}:xp 3 n s↔YH s=true∧n=0:=by
 unfold xp
 have o:Ue 3 n s=ZY s:=rfl;rw [o];cases hp:YH s with
 | false =>
  constructor
  ·rintro ⟨z,-⟩;exact absurd z (X6 s hp)
  ·rintro ⟨h,-⟩;cases h
 | true =>
  have e:=X5 s [] hp;rw [List.append_nil] at e;rw [e]
  constructor
  ·rintro ⟨-,-,-,y⟩;exact ⟨rfl,y.symm⟩
  ·rintro ⟨-,rfl⟩;exact ⟨rfl,rfl,rfl,rfl⟩
theorem zaE (u:Nat) (hu:u≤9223372036854775808):(Lib.decDigits u).length≤100:=by
 have h:=zay 2 (u:Int) []
 by_cases h9:(u:Int)≤9223372036854775807
 ·have o:=h (by omega) h9
  have e:Ue 2 (u:Int) []=Lib.decDigits u:=by
   show Lib.itoa (u:Int)=_
   unfold Lib.itoa
   rw [if_neg (by omega),Int.toNat_natCast]
  rw [e] at o
  simp at o
  omega
 ·have e:u=9223372036854775808:=by omega
  subst e;rw [Lib.decDigits_length]
  decide +kernel
theorem uN (wx:World) (g c:Nat) (hc:c<256) (h:wx.cell? ⟨g,0,none⟩=some (.int .u8 (c:Int))):(convert 39 9 (.slice (some ⟨g,0,none⟩) 1 1)).run Tryz.prog wx=.ok (.string (za [c.toUInt8])) wx :=
 XC wx (some ⟨g,0,none⟩) [c.toUInt8] 1 (uc (Zr hc h)).2.1
theorem vN (n:Nat):∀(w:World),n<9223372036854775808 →
  Calls Tryz.prog 30 #[.int .i64 (n:Int)] w fun e w'=>e=.returned (.string (za (Lib.decDigits n)))∧Below w.heap.size w w':=by
 induction n using Nat.strongRecOn with
 | _ n ih =>
  intro w W
  by_cases h:n<10
  ·obtain ⟨x,z⟩:∃x:UInt8,x=(n+48).toUInt8:=⟨_,rfl⟩
   have D:Hid (Lib.decDigits n=[x]):=by
    show _=_
    rw [Lib.decDigits,dif_pos h,Nat.add_comm,z]
   have A:=uN (w.alloc (.cells #[.int .u8 ((n:Int)+48)] 5)) w.heap.size (n+48) (by omega) (by simp)
   rw [←z] at A;have R:(48:Int)+n=n+48:=by omega
   clear ih z
   go_enter Tryz.func30,Tryz.ntmps30
   go_wp2
   go_ret
   rw [D.out];exact ⟨rfl,(Below.refl _ w).alloc (Nat.le_refl _) _⟩
  ·obtain ⟨q,J⟩:∃q,q=n / 10:=⟨_,rfl⟩
   obtain ⟨d,hd⟩:∃d,d=n % 10:=⟨_,rfl⟩;obtain ⟨x,z⟩:∃x:UInt8,x=(d+48).toUInt8:=⟨_,rfl⟩
   have D:Hid (Lib.decDigits n=Lib.decDigits q++[x]):=by
    show _=_
    rw [Lib.decDigits,dif_neg h,←J,←hd,Nat.add_comm,z]
   have K:d<10:=by omega
   have U:q<922337203685477581:=by omega
   have G:=fun wx=>ih q (by omega) wx (by omega)
   have E:=zaE q (by omega)
   obtain ⟨y,I⟩:∃y,y=Lib.decDigits q:=⟨_,rfl⟩;rw [←I] at G D E;have N:(za y).size=y.length:=rfl
   have A:∀(wx:World) (g:Nat),wx.cell? ⟨g,0,none⟩=some (.int .u8 ((d:Int)+48))→(convert 39 9 (.slice (some ⟨g,0,none⟩) 1 1)).run Tryz.prog wx=.ok (.string (za [x])) wx:=fun wx g hc=>by
    rw [z];exact uN wx g (d+48) (by omega) (by rw [hc];rfl)
   have e1:(n:Int).tdiv 10=q:=by rw [Int.tdiv_eq_ediv_of_nonneg (by omega)];omega
   have X:(n:Int).tmod 10=d:=by rw [Int.tmod_eq_emod_of_nonneg (by omega)];omega
   have Y:(n:Int) / 10=q:=by omega
   have e4:(n:Int) % 10=d:=by omega
   have R:(48:Int)+d=d+48:=by omega
   have O:¬ (n:Int)<10:=by omega
   have M:IntKind.i64.wrap (q:Int)=q:=by rw [IntKind.wrap_i64];omega
   have T:IntKind.i64.wrap (d:Int)=d:=by rw [IntKind.wrap_i64];omega
   have V:IntKind.i64.wrap ((d:Int)+48)=d+48:=by rw [IntKind.wrap_i64];omega
   have Q:IntKind.u8.wrap ((d:Int)+48)=d+48:=by rw [IntKind.wrap_u8];omega
   have H:za y++za [x]=za (y++[x]):=uI y [x];clear ih z I J hd
   go_enter Tryz.func30,Tryz.ntmps30
   go_wp2_with fail
   go_region_with (go_at_call 30;refine (G _).mono ?_;rintro e Z ⟨rfl,o⟩;have L:=fun hlt=>XZ (j:=0) (g:=w.heap.size) o hlt)
   all_goals go_wp2
   all_goals go_ret
   all_goals rw [D.out]
   all_goals first
    | exact ⟨rfl,(((Below.refl w.heap.size w).drew).trans o).alloc o.size _⟩
    | exact ⟨rfl,(((Below.refl w.heap.size w).alloc (Nat.le_refl _) _).drew).trans (o.mono (by simp))⟩
    | exact ⟨rfl,(((Below.refl w.heap.size w).drew).alloc (Nat.le_refl _) _).trans (o.mono (by simp))⟩
end Go.Proofs.YtmbofhpmockmbaaGreatDoor
