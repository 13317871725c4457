import Derived.Test.YtcphojjpapgblaaGreatDoorMC3
import Derived.Test.YtcphojjpapgblaaGreatDoorMC5
import Derived.Test.YtcphojjpapgblaaGreatDoorMC4
namespace Go.Proofs.YtcphojjpapgblaaGreatDoor
open Go.RowKit
theorem xX {p:UInt8→Bool} (z:List UInt8):∀r:List UInt8,(r.takeWhile p).length=r.length→(r++z).takeWhile p=r++z.takeWhile p
 | [],_=>rfl
 | y::r,h=>by
  rw [List.cons_append]
  by_cases hy:p y=true
  ·rw [List.takeWhile_cons_of_pos hy] at h ⊢
   rw [xX z r (by simpa using h)];rfl
  ·rw [List.takeWhile_cons_of_neg hy] at h;simp at h
theorem Yj {p:UInt8→Bool}:∀r:List UInt8,(∀x∈r,p x=true)→r.takeWhile p=r
 | [],_=>rfl
 | y::r,h=>by rw [List.takeWhile_cons_of_pos (h y (List.mem_cons_self ..)),Yj r (fun x hx=>h x (List.mem_cons_of_mem _ hx))]
end Go.Proofs.YtcphojjpapgblaaGreatDoor
namespace Go.Proofs.YtcphojjpapgblaaGreatDoor
open Go.RowKit Go.Shelf
def okC (c:UInt8):Bool:=c.toNat==10||(decide (32≤c.toNat)&&decide (c.toNat≤126))
def Xv (s:List UInt8):Bool:=s.all okC&&decide (s.length≤255)
theorem QY (c:UInt8):okC c=true↔(c.toNat=10∨(32≤c.toNat∧c.toNat≤126)):=by
 unfold okC;simp
theorem zfc {c:UInt8} (h:okC c=true) (t:List UInt8):v6 (Zr c++t)=(c.toNat,(Zr c).length)∧(Zr c++t).head?≠some 34∧1≤(Zr c).length:=by
 rw [QY] at h
 unfold Zr
 by_cases h1:c.toNat=92
 ·rw [if_pos h1,h1]
  exact ⟨rfl,by simp,by decide⟩
 ·rw [if_neg h1]
  by_cases h2:c.toNat=34
  ·rw [if_pos h2,h2]
   exact ⟨rfl,by simp,by decide⟩
  ·rw [if_neg h2]
   by_cases h3:c.toNat=10
   ·rw [if_pos h3,h3]
    exact ⟨rfl,by simp,by decide⟩
   ·rw [if_neg h3]
    refine ⟨?_,?_,by simp⟩
    ·rw [List.cons_append,Ud (by omega) h1];rfl
    ·intro e
     simp at e
     rw [e] at h2;exact h2 rfl
theorem zgH {c:UInt8} (h:okC c=false) (t:List UInt8):Zr c=[c]∧v6 (c::t)=(0,0)∧c.toNat≠34:=by
 have o:¬ (c.toNat=10∨(32≤c.toNat∧c.toNat≤126)):=fun e=>by rw [(QY c).2 e] at h;cases h
 refine ⟨?_,Uc (by omega),by omega⟩
 unfold Zr
 rw [if_neg (by omega),if_neg (by omega),if_neg (by omega)]
theorem Uy (c:UInt8):c.toNat.toUInt8=c:=UInt8.toNat_inj.1 (Lib.toUInt8_toNat (UInt8.toNat_lt c))
theorem Xw {f:Nat} {meant t:List UInt8} {at0:Nat} {x:UInt8} {r:List UInt8} (h34:x.toNat≠34) {c sz:Nat} (htb:v6 (x::r)=(c,sz)) (hsz:sz≠0) (hd:(x::r).drop sz=t) :
  Zo (f+1) meant at0 (x::r)=if meant.length=255 then ⟨0,[],0,0,5⟩ else Zo f (meant++[c.toUInt8]) (at0+sz) t:=by
 conv=>lhs;unfold Zo
 rw [if_neg h34,htb,if_neg hsz];simp only [hd]
theorem Qe (t:List UInt8):∀(s meant:List UInt8) (f at0:Nat),(s.flatMap Zr).length<f→s.all okC=true→meant.length+s.length≤255 →
  Zo f meant at0 (s.flatMap Zr++34::t)=⟨3,meant++s,0,at0+(s.flatMap Zr).length+1,0⟩
 | [],meant,f,at0,hf,_,_=>by
  obtain ⟨f,rfl⟩:∃g,f=g+1:=⟨f-1,by simp at hf;omega⟩
  simp only [List.flatMap_nil,List.nil_append,List.append_nil,List.length_nil,Nat.add_zero]
  unfold Zo
  rw [if_pos (by decide)]
 | c::s,meant,f,at0,hf,hok,hl=>by
  rw [List.all_cons,Bool.and_eq_true] at hok;rw [List.flatMap_cons,List.length_append] at hf;rw [List.length_cons] at hl;obtain ⟨f,rfl⟩:∃g,f=g+1:=⟨f-1,by omega⟩
  obtain ⟨A,z,G⟩:=zfc hok.1 (s.flatMap Zr++34::t);have o:(c::s).flatMap Zr++34::t=Zr c++(s.flatMap Zr++34::t):=by rw [List.flatMap_cons,List.append_assoc]
  have D:=Qe t s (meant++[c]) f (at0+(Zr c).length) (by omega) hok.2 (by rw [List.length_append,List.length_singleton];omega)
  rw [o]
  obtain ⟨x,r,h⟩:∃x r,Zr c++(s.flatMap Zr++34::t)=x::r:=by
   cases h9:Zr c++(s.flatMap Zr++34::t) with
   | nil =>
    have:=congrArg List.length h9
    rw [List.length_append,List.length_nil] at this;omega
   | cons x r=>exact ⟨x,r,rfl⟩
  have y:(x::r).drop (Zr c).length=s.flatMap Zr++34::t:=by rw [←h,List.drop_left]
  rw [h] at A z;rw [h,Xw (fun e=>z (by rw [List.head?_cons,show x=34 from UInt8.toNat_inj.1 e])) A (by omega) y,if_neg (by omega),Uy,D,List.flatMap_cons,List.length_append]
  simp only [TR.mk.injEq,List.append_assoc,List.singleton_append,true_and,and_true];omega
theorem vO (t:List UInt8):∀(s meant:List UInt8) (f at0:Nat),meant.length≤255→(s.all okC=false∨255<meant.length+s.length)→(Zo f meant at0 (s.flatMap Zr++34::t)).e≠0
 | [],meant,f,at0,hm,h=>by
  rcases h with h | h
  ·simp at h
  ·simp at h;omega
 | c::s,meant,0,at0,hm,h=>by
  show (Zo 0 _ _ _).e≠0
  unfold Zo
  simp
 | c::s,meant,f+1,at0,hm,h=>by
  have y:(c::s).flatMap Zr++34::t=Zr c++(s.flatMap Zr++34::t):=by rw [List.flatMap_cons,List.append_assoc]
  rw [y];cases hok:okC c with
  | false =>
   obtain ⟨A,z,G⟩:=zgH hok (s.flatMap Zr++34::t);rw [A,List.singleton_append]
   unfold Zo
   rw [if_neg G,z,if_pos rfl]
   simp
  | true =>
   obtain ⟨A,z,G⟩:=zfc hok (s.flatMap Zr++34::t)
   obtain ⟨x,r,o⟩:∃x r,Zr c++(s.flatMap Zr++34::t)=x::r:=by
    cases h9:Zr c++(s.flatMap Zr++34::t) with
    | nil =>
     have:=congrArg List.length h9
     rw [List.length_append,List.length_nil] at this;omega
    | cons x r=>exact ⟨x,r,rfl⟩
   have D:(x::r).drop (Zr c).length=s.flatMap Zr++34::t:=by rw [←o,List.drop_left]
   rw [o] at A z;rw [o,Xw (fun e=>z (by rw [List.head?_cons,show x=34 from UInt8.toNat_inj.1 e])) A (by omega) D]
   by_cases h255:meant.length=255
   ·rw [if_pos h255];simp
   ·rw [if_neg h255]
    refine vO t s _ f _ (by rw [List.length_append,List.length_singleton];omega) ?_
    rcases h with h | h
    ·rw [List.all_cons,hok,Bool.true_and] at h;exact .inl h
    ·rw [List.length_cons] at h;right;rw [List.length_append,List.length_singleton];omega
theorem Vb (s t:List UInt8) (hp:Xv s=true):Zb (Z7 s++t)=⟨3,s,0,(Z7 s).length,0⟩:=by
 unfold Xv at hp
 rw [Bool.and_eq_true,decide_eq_true_eq] at hp;have o:Z7 s++t=34::(s.flatMap Zr++34::t):=by unfold Z7;simp
 have h:(Z7 s).length=(s.flatMap Zr).length+2:=by unfold Z7;simp
 rw [o];have y:Zb (34::(s.flatMap Zr++34::t))=yT (34::(s.flatMap Zr++34::t)):=rfl;rw [y]
 unfold yT
 rw [List.drop_succ_cons,List.drop_zero,Qe t s [] _ 1 (by simp;omega) hp.1 (by simp;omega),h]
 simp only [List.nil_append,TR.mk.injEq,true_and,and_true];omega
theorem Uz (s:List UInt8) (hp:Xv s=false):(Zb (Z7 s)).e≠0:=by
 have o:Z7 s=34::(s.flatMap Zr++34::[]):=rfl;rw [o];have y:Zb (34::(s.flatMap Zr++34::[]))=yT (34::(s.flatMap Zr++34::[])):=rfl;rw [y]
 unfold yT
 rw [List.drop_succ_cons,List.drop_zero];refine vO [] s [] _ 1 (by simp) ?_
 unfold Xv at hp
 rw [Bool.and_eq_false_iff] at hp;rcases hp with h | h
 ·exact .inl h
 ·right
  rw [decide_eq_false_iff_not] at h
  simp
  omega
theorem Vc:∀(f:Nat) (meant:List UInt8) (at0:Nat) (r:List UInt8),meant.length≤255→(Zo f meant at0 r).e=0 →
  ∃o rest,(Zo f meant at0 r).s=meant++o∧r=o.flatMap Zr++34::rest∧o.all okC=true∧(meant++o).length≤255
 | 0,_,_,_,_,h=>by simp [Zo] at h
 | _+1,_,_,[],_,h=>by simp [Zo] at h
 | f+1,meant,at0,x::r,hm,h=>by
  by_cases h1:x.toNat=34
  ·have O:x=34:=UInt8.toNat_inj.1 h1
   refine ⟨[],r,?_,?_,rfl,by simpa using hm⟩
   ·unfold Zo;rw [if_pos h1];simp
   ·rw [O];rfl
  ·by_cases hbad:x.toNat<32∨126<x.toNat
   ·unfold Zo at h
    rw [if_neg h1,Uc hbad,if_pos rfl] at h
    simp at h
   ·by_cases h92:x.toNat=92
    ·cases r with
     | nil =>
      unfold Zo at h
      rw [if_neg h1,QR hbad h92,if_pos rfl] at h
      simp at h
     | cons y t =>
      have A:v6 (x::y::t)=tbE y.toNat:=QS hbad h92;have O:x=92:=UInt8.toNat_inj.1 h92
      have I:∀c:Nat,c<256→okC c.toUInt8=true→Zr c.toUInt8=[92,y]→tbE y.toNat=(c,2)→∃o rest,(Zo (f+1) meant at0 (x::y::t)).s=meant++o∧x::y::t=o.flatMap Zr++34::rest∧o.all okC=true∧(meant++o).length≤255:=by
       intro c T H z D;rw [D] at A;have G:=Xw (f:=f) (meant:=meant) (at0:=at0) h1 A (by decide) rfl
       rw [G] at h ⊢
       by_cases h255:meant.length=255
       ·rw [if_pos h255] at h;simp at h
       ·rw [if_neg h255] at h ⊢
        obtain ⟨o,rest,N,Q,R,L⟩:=Vc f _ _ _ (by rw [List.length_append,List.length_singleton];omega) h
        refine ⟨c.toUInt8::o,rest,by rw [N];simp,?_,by rw [List.all_cons,H,R];rfl,by simpa using L⟩
        rw [List.flatMap_cons,z,List.append_assoc,←Q,O]
        rfl
      by_cases y92:y.toNat=92
      ·have J:y=92:=UInt8.toNat_inj.1 y92
       exact I 92 (by decide) (by decide) (by rw [J];decide) (by rw [y92];rfl)
      ·by_cases y34:y.toNat=34
       ·have J:y=34:=UInt8.toNat_inj.1 y34
        exact I 34 (by decide) (by decide) (by rw [J];decide) (by rw [y34];rfl)
       ·by_cases y110:y.toNat=110
        ·have J:y=110:=UInt8.toNat_inj.1 y110
         exact I 10 (by decide) (by decide) (by rw [J];decide) (by rw [y110];rfl)
        ·have D:tbE y.toNat=(0,0):=by unfold tbE;rw [if_neg y92,if_neg y34,if_neg y110]
         unfold Zo at h
         rw [if_neg h1,A,D,if_pos rfl] at h
         simp at h
    ·have A:v6 (x::r)=(x.toNat,1):=Ud hbad h92
     have G:=Xw (f:=f) (meant:=meant) (at0:=at0) h1 A (by decide) rfl
     rw [G] at h ⊢
     by_cases h255:meant.length=255
     ·rw [if_pos h255] at h;simp at h
     ·rw [if_neg h255,Uy] at h ⊢
      obtain ⟨o,rest,N,Q,R,L⟩:=Vc f _ _ _ (by rw [List.length_append,List.length_singleton];omega) h
      have H:okC x=true:=(QY x).2 (.inr (by omega))
      have z:Zr x=[x]:=by unfold Zr;rw [if_neg h92,if_neg h1,if_neg (by omega)]
      refine ⟨x::o,rest,by rw [N];simp,?_,by rw [List.all_cons,H,R];rfl,by simpa using L⟩
      rw [List.flatMap_cons,z,List.append_assoc,←Q]
      rfl
theorem Qf (c:UInt8):∀(l:List UInt8) (a:Nat),valA a (l++[c])=valA a l*10+(c.toNat-48)
 | [],_=>rfl
 | x::l,a=>Qf c l (a*10+(x.toNat-48))
end Go.Proofs.YtcphojjpapgblaaGreatDoor
namespace Go.Proofs.YtcphojjpapgblaaGreatDoor
open Go.RowKit
theorem zaU {c:UInt8} {t:List UInt8} (hb:zV c.toNat=false) (hr:XR (c::t)=false):Z0 (c::t)=0:=by
 have e:Z3 zV (c::t)=0:=by
  unfold Z3;rw [List.takeWhile_cons_of_neg (by simp [hb])];rfl
 rw [vy,e,List.drop_zero,Nat.zero_add]
 unfold Uq
 rw [if_neg (by simp [hr])]
theorem zd1 {x:UInt8} {r:List UInt8}:XR (x::r)=(decide (x.toNat=47)&&(match r with | []=>false | y::_=>decide (y.toNat=47))):=by
 have o:∀y:UInt8,((47:UInt8)==y)=decide (y.toNat=47):=fun y=>by
  by_cases h:y=47
  ·subst h;rfl
  ·have z:y.toNat≠47:=fun e=>h (UInt8.toNat_inj.1 e)
   rw [decide_eq_false z,beq_eq_false_iff_ne];exact Ne.symm h
 unfold XR Lib.hasPrefix
 cases r with
 | nil=>simp [List.isPrefixOf]
 | cons y r=>simp only [List.isPrefixOf];rw [o,o,Bool.and_true]
theorem uK (a b:List UInt8) (c:UInt8):Lib.countByte (a++b) c=Lib.countByte a c+Lib.countByte b c:=by
 unfold Lib.countByte
 exact List.count_append
theorem zaV (l:List UInt8):∀(xs:List (List UInt8)) (b:List UInt8),b.length≤(xs.foldl (longer l) b).length∧(∀x∈xs,Lib.hasPrefix l x=true→x.length≤(xs.foldl (longer l) b).length) ∧
  (xs.foldl (longer l) b=b∨(xs.foldl (longer l) b∈xs∧Lib.hasPrefix l (xs.foldl (longer l) b)=true))
 | [],b=>⟨Nat.le_refl _,(fun x h=>by cases h),.inl rfl⟩
 | x::xs,b=>by
  rw [List.foldl_cons];obtain ⟨A,I,J⟩:=zaV l xs (longer l b x)
  have D:b.length≤(longer l b x).length:=by
   unfold longer
   split
   ·rename_i h;omega
   ·exact Nat.le_refl _
  refine ⟨Nat.le_trans D A,fun y z hp=>?_,?_⟩
  ·rcases List.mem_cons.1 z with rfl | z
   ·refine Nat.le_trans ?_ A
    unfold longer
    split
    ·exact Nat.le_refl _
    ·rename_i h
     rcases Nat.lt_or_ge b.length y.length with o | o
     ·exact absurd ⟨o,hp⟩ h
     ·exact o
   ·exact I y z hp
  ·rcases J with h | ⟨H,G⟩
   ·rw [h]
    unfold longer
    split
    ·rename_i o;exact .inr ⟨List.mem_cons_self ..,o.2⟩
    ·exact .inl rfl
   ·exact .inr ⟨List.mem_cons_of_mem _ H,G⟩
theorem zaW (l:List UInt8):(∀x∈signsL,Lib.hasPrefix l x=true→x.length≤(bestS l 25).length)∧(bestS l 25=[]∨(bestS l 25∈signsL∧Lib.hasPrefix l (bestS l 25)=true)):=by
 have h:=zaV l signsL [];have e:bestS l 25=signsL.foldl (longer l) []:=by unfold bestS;rw [List.take_of_length_le (by decide)]
 rw [e];exact h.2
end Go.Proofs.YtcphojjpapgblaaGreatDoor
