import Derived.Test.YtmbofhpmockmbaaGreatDoorMC22
import Derived.Test.YtmbofhpmockmbaaGreatDoorMC39
import Derived.Test.YtmbofhpmockmbaaGreatDoorMC41
import Derived.Deep.RegionHeld3
import Derived.Deep.RegionWith
namespace Go.Proofs.YtmbofhpmockmbaaGreatDoor
open Go.RowKit Go.Shelf
set_option maxHeartbeats 16000000
set_option maxRecDepth 100000
def UO (c:UInt8):Bool:=c.toNat==10||(decide (32≤c.toNat)&&decide (c.toNat≤126))
def YA (s:List UInt8):Bool:=s.all UO&&decide (s.length≤255)
theorem VD (c:UInt8):UO c=true↔(c.toNat=10∨(32≤c.toNat∧c.toNat≤126)):=by
 unfold UO;simp
theorem QC {c:UInt8} (h:UO c=true) (t:List UInt8):Ye (Zj c++t)=(c.toNat,(Zj c).length)∧(Zj c++t).head?≠some 34∧1≤(Zj c).length:=by
 rw [VD] at h
 unfold Zj
 by_cases h1:c.toNat=92
 ·rw [if_pos h1,h1]
  exact ⟨rfl,by simp,by decide⟩
 ·rw [if_neg h1]
  by_cases h2:c.toNat=34
  ·rw [if_pos h2,h2]
   exact ⟨rfl,by simp,by decide⟩
  ·rw [if_neg h2]
   by_cases h3:c.toNat=10
   ·rw [if_pos h3,h3]
    exact ⟨rfl,by simp,by decide⟩
   ·rw [if_neg h3]
    refine ⟨?_,?_,by simp⟩
    ·rw [List.cons_append,xx (by omega) h1];rfl
    ·intro e
     simp at e
     rw [e] at h2;exact h2 rfl
theorem zae {c:UInt8} (h:UO c=false) (t:List UInt8):Zj c=[c]∧Ye (c::t)=(0,0)∧c.toNat≠34:=by
 have o:¬ (c.toNat=10∨(32≤c.toNat∧c.toNat≤126)):=fun e=>by rw [(VD c).2 e] at h;cases h
 refine ⟨?_,xw (by omega),by omega⟩
 unfold Zj
 rw [if_neg (by omega),if_neg (by omega),if_neg (by omega)]
theorem XQ (c:UInt8):c.toNat.toUInt8=c:=UInt8.toNat_inj.1 (Lib.toUInt8_toNat (UInt8.toNat_lt c))
theorem YB {f:Nat} {meant t:List UInt8} {at0:Nat} {x:UInt8} {r:List UInt8} (h34:x.toNat≠34) {c sz:Nat} (htb:Ye (x::r)=(c,sz)) (hsz:sz≠0) (hd:(x::r).drop sz=t) :
  zx (f+1) meant at0 (x::r)=if meant.length=255 then ⟨0,[],0,0,5⟩ else zx f (meant++[c.toUInt8]) (at0+sz) t:=by
 conv=>lhs;unfold zx
 rw [if_neg h34,htb,if_neg hsz];simp only [hd]
theorem Vd (t:List UInt8):∀(s meant:List UInt8) (f at0:Nat),(s.flatMap Zj).length<f→s.all UO=true→meant.length+s.length≤255 →
  zx f meant at0 (s.flatMap Zj++34::t)=⟨3,meant++s,0,at0+(s.flatMap Zj).length+1,0⟩
 | [],meant,f,at0,hf,_,_=>by
  obtain ⟨f,rfl⟩:∃g,f=g+1:=⟨f-1,by simp at hf;omega⟩
  simp only [List.flatMap_nil,List.nil_append,List.append_nil,List.length_nil,Nat.add_zero]
  unfold zx
  rw [if_pos (by decide)]
 | c::s,meant,f,at0,hf,hok,hl=>by
  rw [List.all_cons,Bool.and_eq_true] at hok;rw [List.flatMap_cons,List.length_append] at hf;rw [List.length_cons] at hl;obtain ⟨f,rfl⟩:∃g,f=g+1:=⟨f-1,by omega⟩
  obtain ⟨A,z,E⟩:=QC hok.1 (s.flatMap Zj++34::t);have o:(c::s).flatMap Zj++34::t=Zj c++(s.flatMap Zj++34::t):=by rw [List.flatMap_cons,List.append_assoc]
  have D:=Vd t s (meant++[c]) f (at0+(Zj c).length) (by omega) hok.2 (by rw [List.length_append,List.length_singleton];omega)
  rw [o]
  obtain ⟨x,r,h⟩:∃x r,Zj c++(s.flatMap Zj++34::t)=x::r:=by
   cases h9:Zj c++(s.flatMap Zj++34::t) with
   | nil =>
    have:=congrArg List.length h9
    rw [List.length_append,List.length_nil] at this;omega
   | cons x r=>exact ⟨x,r,rfl⟩
  have y:(x::r).drop (Zj c).length=s.flatMap Zj++34::t:=by rw [←h,List.drop_left]
  rw [h] at A z;rw [h,YB (fun e=>z (by rw [List.head?_cons,show x=34 from UInt8.toNat_inj.1 e])) A (by omega) y,if_neg (by omega),XQ,D,List.flatMap_cons,List.length_append]
  simp only [TR.mk.injEq,List.append_assoc,List.singleton_append,true_and,and_true];omega
theorem xe (t:List UInt8):∀(s meant:List UInt8) (f at0:Nat),meant.length≤255→(s.all UO=false∨255<meant.length+s.length)→(zx f meant at0 (s.flatMap Zj++34::t)).e≠0
 | [],meant,f,at0,hm,h=>by
  rcases h with h | h
  ·simp at h
  ·simp at h;omega
 | c::s,meant,0,at0,hm,h=>by
  show (zx 0 _ _ _).e≠0
  unfold zx
  simp
 | c::s,meant,f+1,at0,hm,h=>by
  have y:(c::s).flatMap Zj++34::t=Zj c++(s.flatMap Zj++34::t):=by rw [List.flatMap_cons,List.append_assoc]
  rw [y];cases hok:UO c with
  | false =>
   obtain ⟨A,z,E⟩:=zae hok (s.flatMap Zj++34::t);rw [A,List.singleton_append]
   unfold zx
   rw [if_neg E,z,if_pos rfl]
   simp
  | true =>
   obtain ⟨A,z,E⟩:=QC hok (s.flatMap Zj++34::t)
   obtain ⟨x,r,o⟩:∃x r,Zj c++(s.flatMap Zj++34::t)=x::r:=by
    cases h9:Zj c++(s.flatMap Zj++34::t) with
    | nil =>
     have:=congrArg List.length h9
     rw [List.length_append,List.length_nil] at this;omega
    | cons x r=>exact ⟨x,r,rfl⟩
   have D:(x::r).drop (Zj c).length=s.flatMap Zj++34::t:=by rw [←o,List.drop_left]
   rw [o] at A z;rw [o,YB (fun e=>z (by rw [List.head?_cons,show x=34 from UInt8.toNat_inj.1 e])) A (by omega) D]
   by_cases h255:meant.length=255
   ·rw [if_pos h255];simp
   ·rw [if_neg h255]
    refine xe t s _ f _ (by rw [List.length_append,List.length_singleton];omega) ?_
    rcases h with h | h
    ·rw [List.all_cons,hok,Bool.true_and] at h;exact .inl h
    ·rw [List.length_cons] at h;right;rw [List.length_append,List.length_singleton];omega
theorem XR (s t:List UInt8) (hp:YA s=true):zD (ZV s++t)=⟨3,s,0,(ZV s).length,0⟩:=by
 unfold YA at hp
 rw [Bool.and_eq_true,decide_eq_true_eq] at hp;have o:ZV s++t=34::(s.flatMap Zj++34::t):=by unfold ZV;simp
 have e:(ZV s).length=(s.flatMap Zj).length+2:=by unfold ZV;simp
 rw [o];have h:zD (34::(s.flatMap Zj++34::t))=zO (34::(s.flatMap Zj++34::t)):=rfl;rw [h]
 unfold zO
 rw [List.drop_succ_cons,List.drop_zero,Vd t s [] _ 1 (by simp;omega) hp.1 (by simp;omega),e]
 simp only [List.nil_append,TR.mk.injEq,true_and,and_true];omega
theorem XS (s:List UInt8) (hp:YA s=false):(zD (ZV s)).e≠0:=by
 have y:ZV s=34::(s.flatMap Zj++34::[]):=rfl;rw [y];have o:zD (34::(s.flatMap Zj++34::[]))=zO (34::(s.flatMap Zj++34::[])):=rfl;rw [o]
 unfold zO
 rw [List.drop_succ_cons,List.drop_zero];refine xe [] s [] _ 1 (by simp) ?_
 unfold YA at hp
 rw [Bool.and_eq_false_iff] at hp;rcases hp with h | h
 ·exact .inl h
 ·right
  rw [decide_eq_false_iff_not] at h
  simp
  omega
theorem xp:∀(f:Nat) (meant:List UInt8) (at0:Nat) (r:List UInt8),meant.length≤255→(zx f meant at0 r).e=0 →
  ∃o rest,(zx f meant at0 r).s=meant++o∧r=o.flatMap Zj++34::rest∧o.all UO=true∧(meant++o).length≤255
 | 0,_,_,_,_,h=>by simp [zx] at h
 | _+1,_,_,[],_,h=>by simp [zx] at h
 | f+1,meant,at0,x::r,hm,h=>by
  by_cases h1:x.toNat=34
  ·have J:x=34:=UInt8.toNat_inj.1 h1
   refine ⟨[],r,?_,?_,rfl,by simpa using hm⟩
   ·unfold zx;rw [if_pos h1];simp
   ·rw [J];rfl
  ·by_cases hbad:x.toNat<32∨126<x.toNat
   ·unfold zx at h
    rw [if_neg h1,xw hbad,if_pos rfl] at h
    simp at h
   ·by_cases h92:x.toNat=92
    ·cases r with
     | nil =>
      unfold zx at h
      rw [if_neg h1,Xl hbad h92,if_pos rfl] at h
      simp at h
     | cons y t =>
      have A:Ye (x::y::t)=U8 y.toNat:=Xm hbad h92;have J:x=92:=UInt8.toNat_inj.1 h92
      have E:∀c:Nat,c<256→UO c.toUInt8=true→Zj c.toUInt8=[92,y]→U8 y.toNat=(c,2)→∃o rest,(zx (f+1) meant at0 (x::y::t)).s=meant++o∧x::y::t=o.flatMap Zj++34::rest∧o.all UO=true∧(meant++o).length≤255:=by
       intro c N H z D;rw [D] at A;have G:=YB (f:=f) (meant:=meant) (at0:=at0) h1 A (by decide) rfl
       rw [G] at h ⊢
       by_cases h255:meant.length=255
       ·rw [if_pos h255] at h;simp at h
       ·rw [if_neg h255] at h ⊢
        obtain ⟨o,rest,i1,L,K,M⟩:=xp f _ _ _ (by rw [List.length_append,List.length_singleton];omega) h
        refine ⟨c.toUInt8::o,rest,by rw [i1];simp,?_,by rw [List.all_cons,H,K];rfl,by simpa using M⟩
        rw [List.flatMap_cons,z,List.append_assoc,←L,J]
        rfl
      by_cases y92:y.toNat=92
      ·have I:y=92:=UInt8.toNat_inj.1 y92
       exact E 92 (by decide) (by decide) (by rw [I];decide) (by rw [y92];rfl)
      ·by_cases y34:y.toNat=34
       ·have I:y=34:=UInt8.toNat_inj.1 y34
        exact E 34 (by decide) (by decide) (by rw [I];decide) (by rw [y34];rfl)
       ·by_cases y110:y.toNat=110
        ·have I:y=110:=UInt8.toNat_inj.1 y110
         exact E 10 (by decide) (by decide) (by rw [I];decide) (by rw [y110];rfl)
        ·have D:U8 y.toNat=(0,0):=by unfold U8;rw [if_neg y92,if_neg y34,if_neg y110]
         unfold zx at h
         rw [if_neg h1,A,D,if_pos rfl] at h
         simp at h
    ·have A:Ye (x::r)=(x.toNat,1):=xx hbad h92
     have G:=YB (f:=f) (meant:=meant) (at0:=at0) h1 A (by decide) rfl
     rw [G] at h ⊢
     by_cases h255:meant.length=255
     ·rw [if_pos h255] at h;simp at h
     ·rw [if_neg h255,XQ] at h ⊢
      obtain ⟨o,rest,i1,L,K,M⟩:=xp f _ _ _ (by rw [List.length_append,List.length_singleton];omega) h
      have H:UO x=true:=(VD x).2 (.inr (by omega))
      have z:Zj x=[x]:=by unfold Zj;rw [if_neg h92,if_neg h1,if_neg (by omega)]
      refine ⟨x::o,rest,by rw [i1];simp,?_,by rw [List.all_cons,H,K];rfl,by simpa using M⟩
      rw [List.flatMap_cons,z,List.append_assoc,←L]
      rfl
theorem UP (u:Nat):∀c∈Lib.decDigits u,zC c.toNat=true:=by
 induction u using Nat.strongRecOn with
 | _ u ih =>
  have o:∀d:Nat,d<10→zC (UInt8.ofNat (48+d)).toNat=true:=by decide
  intro c e;rw [Lib.decDigits] at e
  by_cases h:u<10
  ·rw [dif_pos h,List.mem_singleton] at e
   rw [e];exact o u h
  ·rw [dif_neg h,List.mem_append,List.mem_singleton] at e
   rcases e with e | e
   ·exact ih (u / 10) (by omega) c e
   ·rw [e];exact o (u % 10) (by omega)
theorem zaA (u:Nat):Lib.decDigits u≠[]:=by
 intro h
 have:=congrArg List.length h
 rw [Lib.decDigits_length,List.length_nil] at this
 have:=Lib.nDigits_pos u
 omega
theorem zaf (u:Nat):valA 0 (Lib.decDigits u)=u:=by
 induction u using Nat.strongRecOn with
 | _ u ih =>
  have e:∀d:Nat,d<10→(UInt8.ofNat (48+d)).toNat-48=d:=by decide
  rw [Lib.decDigits]
  by_cases h:u<10
  ·rw [dif_pos h]
   show 0*10+((UInt8.ofNat (48+u)).toNat-48)=u
   rw [e u h];omega
  ·rw [dif_neg h,xR,ih (u / 10) (by omega),e (u % 10) (by omega)]
   omega
theorem QD (u:Nat) (t:List UInt8) (ht:∀x∈t.head?,zC x.toNat=false):digL (Lib.decDigits u++t)=Lib.decDigits u:=by
 unfold digL
 rw [Y5 t _ (by rw [yB _ (UP u)])]
 cases t with
 | nil=>simp
 | cons x t=>rw [List.takeWhile_cons_of_neg (by rw [ht x rfl];simp),List.append_nil]
theorem QE (u:Nat) (hu:u<9223372036854775808) (t:List UInt8) (ht:∀x∈t.head?,zC x.toNat=false):zD (Lib.decDigits u++t)=⟨2,[],u,(Lib.decDigits u).length,0⟩:=by
 obtain ⟨x,r,e⟩:∃x r,Lib.decDigits u=x::r:=by
  cases h:Lib.decDigits u with
  | nil=>exact absurd h (zaA u)
  | cons x r=>exact ⟨x,r,rfl⟩
 have o:zC x.toNat=true:=UP u x (by rw [e];exact List.mem_cons_self ..)
 have z:zK x.toNat=false:=by
  unfold zC at o
  rw [Bool.and_eq_true,decide_eq_true_eq,decide_eq_true_eq] at o
  unfold zK
  rw [Bool.or_eq_false_iff,Bool.or_eq_false_iff];refine ⟨⟨by rw [beq_eq_false_iff_ne];omega,?_⟩,?_⟩ <;> (rw [Bool.and_eq_false_iff,decide_eq_false_iff_not,decide_eq_false_iff_not];omega)
 have hd:=QD u t ht
 have y:zD (Lib.decDigits u++t)=yj (Lib.decDigits u++t):=by
  rw [e,List.cons_append]
  unfold zD
  simp only;rw [if_neg (by rw [z];simp),if_pos o]
 rw [y]
 unfold yj
 rw [hd,zaf,if_pos hu]
theorem un:∀(f:Nat) (meant:List UInt8) (at0:Nat) (r:List UInt8),(zx f meant at0 r).e=0→(zx f meant at0 r).k=3
 | 0,_,_,_,h=>by simp [zx] at h
 | _+1,_,_,[],h=>by simp [zx] at h
 | f+1,meant,at0,x::r,h=>by
  unfold zx at h ⊢
  by_cases h1:x.toNat=34
  ·rw [if_pos h1]
  ·rw [if_neg h1] at h ⊢
   by_cases h2:(Ye (x::r)).2=0
   ·rw [if_pos h2] at h;simp at h
   ·rw [if_neg h2] at h ⊢
    by_cases h3:meant.length=255
    ·rw [if_pos h3] at h;simp at h
    ·rw [if_neg h3] at h ⊢
     exact un f _ _ _ h
def xg (s:List UInt8):Bool:=match s with | []=>false | x::r=>zK x.toNat&&r.all (fun c=>ZG c.toNat)&&!Zv s&&decide (s.length≤20)
theorem Ve {s:List UInt8} (h:s.all (fun c=>ZG c.toNat)=true):Ze s=s:=yB s (fun x hx=>List.all_eq_true.1 h x hx)
theorem VE {s:List UInt8} (h:Ze s=s):s.all (fun c=>ZG c.toNat)=true:=by
 rw [List.all_eq_true];intro x e;exact YX (p:=fun c=>ZG c.toNat) s x (by rw [←h] at e;exact e)
theorem uo:∀x∈wordsL,∃c r,x=c::r∧zK c.toNat=true∧x.all (fun c=>ZG c.toNat)=true:=by
 intro x e;have y:∀x∈wordsL,x≠[]:=by decide
 have o:∀x∈wordsL,x.all (fun c=>ZG c.toNat)=true:=by decide
 have h:∀x∈wordsL,zK (x.headD 0).toNat=true:=by decide
 cases x with
 | nil=>exact absurd rfl (y _ e)
 | cons c r=>exact ⟨c,r,rfl,h _ e,o _ e⟩
theorem qJ:∀x∈signsL,∃c r,x=c::r∧zK c.toNat=false∧zC c.toNat=false∧c.toNat≠34∧zz c.toNat=false:=by
 intro x e;have o:∀x∈signsL,x≠[]:=by decide
 have h:∀x∈signsL,zK (x.headD 0).toNat=false∧zC (x.headD 0).toNat=false∧(x.headD 0).toNat≠34∧zz (x.headD 0).toNat=false:=by decide
 cases x with
 | nil=>exact absurd rfl (o _ e)
 | cons c r=>exact ⟨c,r,rfl,h _ e⟩
theorem yA {x:UInt8} {r:List UInt8} (h:zK x.toNat=true):zD (x::r)=Zk (x::r):=by
 unfold zD;simp only;rw [if_pos h]
theorem xq {x:UInt8} {r:List UInt8} (h:zK x.toNat=false) (h2:zC x.toNat=true):zD (x::r)=yj (x::r):=by
 unfold zD;simp only;rw [if_neg (by rw [h];simp),if_pos h2]
theorem xU {x:UInt8} {r:List UInt8} (h:zK x.toNat=false) (h2:zC x.toNat=false) (h3:x.toNat=34):zD (x::r)=zO (x::r):=by
 unfold zD;simp only;rw [if_neg (by rw [h];simp),if_neg (by rw [h2];simp),if_pos h3]
theorem Yq {x:UInt8} {r:List UInt8} (h:zK x.toNat=false) (h2:zC x.toNat=false) (h3:x.toNat≠34):zD (x::r)=ZM (x::r):=by
 unfold zD;simp only;rw [if_neg (by rw [h];simp),if_neg (by rw [h2];simp),if_neg h3]
theorem qK:∀x∈signsL,bestS x 25=x:=by decide +kernel
theorem Uv (t:List UInt8):(zD (45::t)).e=0→(zD (45::t)).k=4:=by
 have o:zD (45::t)=ZM (45::t):=Yq (by decide) (by decide) (by decide)
 rw [o]
 unfold ZM
 split
 ·intro h;simp at h
 ·intro _;rfl
theorem QF {x:List UInt8} (hx:x∈signsL):zD x=⟨4,x,0,x.length,0⟩:=by
 obtain ⟨c,r,rfl,o,h,e,-⟩:=qJ x hx;rw [Yq o h e]
 unfold ZM
 rw [qK _ hx,if_neg (by simp)]
theorem zaW {x:List UInt8} (hx:Zv x=true):zD x=⟨5,x,0,x.length,0⟩:=by
 obtain ⟨c,r,rfl,h,e⟩:=uo x (by unfold Zv at hx;exact List.contains_iff_mem.1 hx)
 rw [yA h]
 unfold Zk
 rw [Ve e,if_pos hx]
theorem zag {x:List UInt8} (hx:xg x=true):zD x=⟨1,x,0,x.length,0⟩:=by
 cases x with
 | nil=>simp [xg] at hx
 | cons c r =>
  unfold xg at hx
  simp only at hx;rw [Bool.and_eq_true,Bool.and_eq_true,Bool.and_eq_true,decide_eq_true_eq] at hx;obtain ⟨⟨⟨o,y⟩,h⟩,A⟩:=hx;have z:(c::r).all (fun c=>ZG c.toNat)=true:=by rw [List.all_cons,y,Bool.and_true];simp [ZG,o]
  rw [yA o]
  unfold Zk
  rw [Ve z,if_neg (by intro e;rw [e] at h;cases h),if_neg (by omega)]
theorem yS {k n:Int} {s:List UInt8} (h2:k≠2) (h3:k≠3):Y9 k n s↔(k=0∧s=[]∧n=0)∨(k=1∧xg s=true∧n=0)∨(k=4∧s∈signsL∧n=0)∨(k=5∧Zv s=true∧n=0):=by
 have E:uH k n s=s:=by unfold uH;rw [if_neg h2,if_neg h3]
 unfold Y9
 rw [E]
 constructor
 ·rintro ⟨y,e,o,z⟩
  cases s with
  | nil=>exact .inl ⟨e.symm,rfl,z.symm⟩
  | cons x r =>
   right
   cases h1:zK x.toNat with
   | true =>
    rw [yA h1] at y e o z
    unfold Zk at y e o z
    by_cases hq:Zv (Ze (x::r))=true
    ·rw [if_pos hq] at y e o z
     simp only at y e o z;rw [o] at hq;exact .inr (.inr ⟨e.symm,hq,z.symm⟩)
    ·rw [if_neg hq] at y e o z
     by_cases h20:20<(Ze (x::r)).length
     ·rw [if_pos h20] at y;simp at y
     ·rw [if_neg h20] at y e o z
      simp only at y e o z;have A:=VE o;rw [o] at hq h20;refine .inl ⟨e.symm,?_,z.symm⟩
      unfold xg
      simp only;rw [List.all_cons,Bool.and_eq_true] at A;rw [h1,A.2,decide_eq_true (by omega)]
      simp [hq]
   | false =>
    cases h4:zC x.toNat with
    | true =>
     rw [xq h1 h4] at y e o z
     unfold yj at y e o z
     split at o
     ·simp at o
     ·simp at o
    | false =>
     by_cases h34:x.toNat=34
     ·rw [xU h1 h4 h34] at y e
      have:=(un _ _ _ _ y)
      unfold zO at e
      rw [this] at e;exact absurd e.symm h3
     ·rw [Yq h1 h4 h34] at y e o z
      unfold ZM at y e o z
      by_cases hb:bestS (x::r) 25=[]
      ·rw [if_pos hb] at y;simp at y
      ·rw [if_neg hb] at e o z
       simp only at e o z;rcases (xB (x::r)).2 with D | ⟨D,-⟩
       ·exact absurd D hb
       ·rw [o] at D
        exact .inr (.inl ⟨e.symm,D,z.symm⟩)
 ·rintro (⟨rfl,rfl,rfl⟩ | ⟨rfl,h,rfl⟩ | ⟨rfl,h,rfl⟩ | ⟨rfl,h,rfl⟩)
  ·exact ⟨rfl,rfl,rfl,rfl⟩
  ·rw [zag h];exact ⟨rfl,rfl,rfl,rfl⟩
  ·rw [QF h];exact ⟨rfl,rfl,rfl,rfl⟩
  ·rw [zaW h];exact ⟨rfl,rfl,rfl,rfl⟩
theorem QG {n:Int} {s:List UInt8} (hn1:n≤9223372036854775807):Y9 2 n s↔s=[]∧0≤n:=by
 unfold Y9
 have y:uH 2 n s=Lib.itoa n:=rfl;rw [y]
 unfold Lib.itoa
 by_cases h:n<0
 ·rw [if_pos h]
  constructor
  ·rintro ⟨z,e,-,-⟩
   have:=Uv _ z
   rw [this] at e;cases e
  ·rintro ⟨-,D⟩;omega
 ·rw [if_neg h]
  have o:=QE n.toNat (by omega) [] (fun x hx=>by simp at hx)
  rw [List.append_nil] at o;rw [o]
  constructor
  ·rintro ⟨-,-,A,-⟩;exact ⟨A.symm,by omega⟩
  ·rintro ⟨rfl,D⟩
   refine ⟨rfl,rfl,rfl,?_⟩;show ((n.toNat:Nat):Int)=n
   omega
theorem qL {n:Int} {s:List UInt8}:Y9 3 n s↔YA s=true∧n=0:=by
 unfold Y9
 have o:uH 3 n s=ZV s:=rfl;rw [o];cases hp:YA s with
 | false =>
  constructor
  ·rintro ⟨y,-⟩;exact absurd y (XS s hp)
  ·rintro ⟨h,-⟩;cases h
 | true =>
  have e:=XR s [] hp;rw [List.append_nil] at e;rw [e]
  constructor
  ·rintro ⟨-,-,-,z⟩;exact ⟨rfl,z.symm⟩
  ·rintro ⟨-,rfl⟩;exact ⟨rfl,rfl,rfl,rfl⟩
theorem zah (u:Nat) (hu:u≤9223372036854775808):(Lib.decDigits u).length≤100:=by
 have h:=Q8 2 (u:Int) []
 by_cases h9:(u:Int)≤9223372036854775807
 ·have o:=h (by omega) h9
  have e:uH 2 (u:Int) []=Lib.decDigits u:=by
   show Lib.itoa (u:Int)=_
   unfold Lib.itoa
   rw [if_neg (by omega),Int.toNat_natCast]
  rw [e] at o
  simp at o
  omega
 ·have e:u=9223372036854775808:=by omega
  subst e;rw [Lib.decDigits_length]
  decide +kernel
theorem uq (wx:World) (g c:Nat) (hc:c<256) (h:wx.cell? ⟨g,0,none⟩=some (.int .u8 (c:Int))):(convert 39 9 (.slice (some ⟨g,0,none⟩) 1 1)).run Tryz.prog wx=.ok (.string (za [c.toUInt8])) wx :=
 Xs wx (some ⟨g,0,none⟩) [c.toUInt8] 1 (VQ (Zn hc h)).2.1
theorem vx (n:Nat):∀(w:World),n<9223372036854775808 →
  Calls Tryz.prog 30 #[.int .i64 (n:Int)] w fun e w'=>e=.returned (.string (za (Lib.decDigits n)))∧Below w.heap.size w w':=by
 induction n using Nat.strongRecOn with
 | _ n ih =>
  intro w Y
  by_cases h:n<10
  ·obtain ⟨x,z⟩:∃x:UInt8,x=(n+48).toUInt8:=⟨_,rfl⟩
   have D:Hid (Lib.decDigits n=[x]):=by
    show _=_
    rw [Lib.decDigits,dif_pos h,Nat.add_comm,z]
   have A:=uq (w.alloc (.cells #[.int .u8 ((n:Int)+48)] 5)) w.heap.size (n+48) (by omega) (by simp)
   rw [←z] at A;have M:(48:Int)+n=n+48:=by omega
   clear ih z
   go_enter Tryz.func30,Tryz.ntmps30
   go_wp2
   go_ret
   rw [D.out];exact ⟨rfl,(Below.refl _ w).alloc (Nat.le_refl _) _⟩
  ·obtain ⟨q,H⟩:∃q,q=n / 10:=⟨_,rfl⟩
   obtain ⟨d,hd⟩:∃d,d=n % 10:=⟨_,rfl⟩;obtain ⟨x,z⟩:∃x:UInt8,x=(d+48).toUInt8:=⟨_,rfl⟩
   have D:Hid (Lib.decDigits n=Lib.decDigits q++[x]):=by
    show _=_
    rw [Lib.decDigits,dif_neg h,←H,←hd,Nat.add_comm,z]
   have G:d<10:=by omega
   have R:q<922337203685477581:=by omega
   have K:=fun wx=>ih q (by omega) wx (by omega)
   have E:=zah q (by omega)
   obtain ⟨y,J⟩:∃y,y=Lib.decDigits q:=⟨_,rfl⟩;rw [←J] at K D E;have O:(za y).size=y.length:=rfl
   have A:∀(wx:World) (g:Nat),wx.cell? ⟨g,0,none⟩=some (.int .u8 ((d:Int)+48))→(convert 39 9 (.slice (some ⟨g,0,none⟩) 1 1)).run Tryz.prog wx=.ok (.string (za [x])) wx:=fun wx g hc=>by
    rw [z];exact uq wx g (d+48) (by omega) (by rw [hc];rfl)
   have W:(n:Int).tdiv 10=q:=by rw [Int.tdiv_eq_ediv_of_nonneg (by omega)];omega
   have e2:(n:Int).tmod 10=d:=by rw [Int.tmod_eq_emod_of_nonneg (by omega)];omega
   have e3:(n:Int) / 10=q:=by omega
   have X:(n:Int) % 10=d:=by omega
   have M:(48:Int)+d=d+48:=by omega
   have N:¬ (n:Int)<10:=by omega
   have L:IntKind.i64.wrap (q:Int)=q:=by rw [IntKind.wrap_i64];omega
   have Q:IntKind.i64.wrap (d:Int)=d:=by rw [IntKind.wrap_i64];omega
   have U:IntKind.i64.wrap ((d:Int)+48)=d+48:=by rw [IntKind.wrap_i64];omega
   have V:IntKind.u8.wrap ((d:Int)+48)=d+48:=by rw [IntKind.wrap_u8];omega
   have I:za y++za [x]=za (y++[x]):=ui y [x];clear ih z J H hd
   go_enter Tryz.func30,Tryz.ntmps30
   go_wp2_with fail
   go_region_with (go_at_call 30;refine (K _).mono ?_;rintro e Z ⟨rfl,o⟩;have T:=fun hlt=>XL (j:=0) (g:=w.heap.size) o hlt)
   all_goals go_wp2
   all_goals go_ret
   all_goals rw [D.out]
   all_goals first
    | exact ⟨rfl,(((Below.refl w.heap.size w).drew).trans o).alloc o.size _⟩
    | exact ⟨rfl,(((Below.refl w.heap.size w).alloc (Nat.le_refl _) _).drew).trans (o.mono (by simp))⟩
    | exact ⟨rfl,(((Below.refl w.heap.size w).drew).alloc (Nat.le_refl _) _).trans (o.mono (by simp))⟩
end Go.Proofs.YtmbofhpmockmbaaGreatDoor
