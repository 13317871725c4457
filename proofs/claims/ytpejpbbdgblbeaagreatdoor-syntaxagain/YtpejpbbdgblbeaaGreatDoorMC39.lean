import Derived.Test.YtpejpbbdgblbeaaGreatDoorMC38
namespace Go.Proofs.YtpejpbbdgblbeaaGreatDoor
open Go.RowKit Go.Shelf
theorem u6 (u:Nat):∀c∈Lib.decDigits u,Zw c.toNat=true:=by
 induction u using Nat.strongRecOn with
 | _ u ih =>
  have y:∀d:Nat,d<10→Zw (UInt8.ofNat (48+d)).toNat=true:=by decide
  intro c o;rw [Lib.decDigits] at o
  by_cases h:u<10
  ·rw [dif_pos h,List.mem_singleton] at o
   rw [o];exact y u h
  ·rw [dif_neg h,List.mem_append,List.mem_singleton] at o
   rcases o with o | o
   ·exact ih (u / 10) (by omega) c o
   ·rw [o];exact y (u % 10) (by omega)
theorem zbP (u:Nat):Lib.decDigits u≠[]:=by
 intro h
 have:=congrArg List.length h
 rw [Lib.decDigits_length,List.length_nil] at this
 have:=Lib.nDigits_pos u
 omega
theorem zgo (u:Nat):valA 0 (Lib.decDigits u)=u:=by
 induction u using Nat.strongRecOn with
 | _ u ih =>
  have o:∀d:Nat,d<10→(UInt8.ofNat (48+d)).toNat-48=d:=by decide
  rw [Lib.decDigits]
  by_cases h:u<10
  ·rw [dif_pos h]
   show 0*10+((UInt8.ofNat (48+u)).toNat-48)=u
   rw [o u h];omega
  ·rw [dif_neg h,qS,ih (u / 10) (by omega),o (u % 10) (by omega)]
   omega
theorem zeU (u:Nat) (t:List UInt8) (ht:∀x∈t.head?,Zw x.toNat=false):digL (Lib.decDigits u++t)=Lib.decDigits u:=by
 unfold digL
 rw [xX t _ (by rw [Yh _ (u6 u)])]
 cases t with
 | nil=>simp
 | cons x t=>rw [List.takeWhile_cons_of_neg (by rw [ht x rfl];simp),List.append_nil]
theorem zaH (u:Nat) (hu:u<9223372036854775808) (t:List UInt8) (ht:∀x∈t.head?,Zw x.toNat=false):Zc (Lib.decDigits u++t)=⟨2,[],u,(Lib.decDigits u).length,0⟩:=by
 obtain ⟨x,r,o⟩:∃x r,Lib.decDigits u=x::r:=by
  cases h:Lib.decDigits u with
  | nil=>exact absurd h (zbP u)
  | cons x r=>exact ⟨x,r,rfl⟩
 have y:Zw x.toNat=true:=u6 u x (by rw [o];exact List.mem_cons_self ..)
 have z:Zv x.toNat=false:=by
  unfold Zw at y
  rw [Bool.and_eq_true,decide_eq_true_eq,decide_eq_true_eq] at y
  unfold Zv
  rw [Bool.or_eq_false_iff,Bool.or_eq_false_iff];refine ⟨⟨by rw [beq_eq_false_iff_ne];omega,?_⟩,?_⟩ <;> (rw [Bool.and_eq_false_iff,decide_eq_false_iff_not,decide_eq_false_iff_not];omega)
 have hd:=zeU u t ht
 have A:Zc (Lib.decDigits u++t)=XX (Lib.decDigits u++t):=by
  rw [o,List.cons_append]
  unfold Zc
  simp only;rw [if_neg (by rw [z];simp),if_pos y]
 rw [A]
 unfold XX
 rw [hd,zgo,if_pos hu]
theorem zaI:∀(f:Nat) (meant:List UInt8) (at0:Nat) (r:List UInt8),(Zq f meant at0 r).e=0→(Zq f meant at0 r).k=3
 | 0,_,_,_,h=>by simp [Zq] at h
 | _+1,_,_,[],h=>by simp [Zq] at h
 | f+1,meant,at0,x::r,h=>by
  unfold Zq at h ⊢
  by_cases h1:x.toNat=34
  ·rw [if_pos h1]
  ·rw [if_neg h1] at h ⊢
   by_cases h2:(v7 (x::r)).2=0
   ·rw [if_pos h2] at h;simp at h
   ·rw [if_neg h2] at h ⊢
    by_cases h3:meant.length=255
    ·rw [if_pos h3] at h;simp at h
    ·rw [if_neg h3] at h ⊢
     exact zaI f _ _ _ h
def Y3 (s:List UInt8):Bool:=match s with | []=>false | x::r=>Zv x.toNat&&r.all (fun c=>yu c.toNat)&&!yp s&&decide (s.length≤20)
theorem qT {s:List UInt8} (h:s.all (fun c=>yu c.toNat)=true):Z7 s=s:=Yh s (fun x hx=>List.all_eq_true.1 h x hx)
theorem QH {s:List UInt8} (h:Z7 s=s):s.all (fun c=>yu c.toNat)=true:=by
 rw [List.all_eq_true];intro x o;exact VC (p:=fun c=>yu c.toNat) s x (by rw [←h] at o;exact o)
theorem uC:∀x∈wordsL,∃c r,x=c::r∧Zv c.toNat=true∧x.all (fun c=>yu c.toNat)=true:=by
 intro x h;have z:∀x∈wordsL,x≠[]:=by decide
 have o:∀x∈wordsL,x.all (fun c=>yu c.toNat)=true:=by decide
 have y:∀x∈wordsL,Zv (x.headD 0).toNat=true:=by decide
 cases x with
 | nil=>exact absurd rfl (z _ h)
 | cons c r=>exact ⟨c,r,rfl,y _ h,o _ h⟩
theorem qU:∀x∈signsL,∃c r,x=c::r∧Zv c.toNat=false∧Zw c.toNat=false∧c.toNat≠34∧zV c.toNat=false:=by
 intro x h;have y:∀x∈signsL,x≠[]:=by decide
 have o:∀x∈signsL,Zv (x.headD 0).toNat=false∧Zw (x.headD 0).toNat=false∧(x.headD 0).toNat≠34∧zV (x.headD 0).toNat=false:=by decide
 cases x with
 | nil=>exact absurd rfl (y _ h)
 | cons c r=>exact ⟨c,r,rfl,o _ h⟩
theorem yV {x:UInt8} {r:List UInt8} (h:Zv x.toNat=true):Zc (x::r)=Yd (x::r):=by
 unfold Zc;simp only;rw [if_pos h]
theorem Ve {x:UInt8} {r:List UInt8} (h:Zv x.toNat=false) (h2:Zw x.toNat=true):Zc (x::r)=XX (x::r):=by
 unfold Zc;simp only;rw [if_neg (by rw [h];simp),if_pos h2]
theorem V6 {x:UInt8} {r:List UInt8} (h:Zv x.toNat=false) (h2:Zw x.toNat=false) (h3:x.toNat=34):Zc (x::r)=yT (x::r):=by
 unfold Zc;simp only;rw [if_neg (by rw [h];simp),if_neg (by rw [h2];simp),if_pos h3]
theorem xj {x:UInt8} {r:List UInt8} (h:Zv x.toNat=false) (h2:Zw x.toNat=false) (h3:x.toNat≠34):Zc (x::r)=Yu (x::r):=by
 unfold Zc;simp only;rw [if_neg (by rw [h];simp),if_neg (by rw [h2];simp),if_neg h3]
theorem qV:∀x∈signsL,bestS x 25=x:=by decide +kernel
theorem zbQ (t:List UInt8):(Zc (45::t)).e=0→(Zc (45::t)).k=4:=by
 have o:Zc (45::t)=Yu (45::t):=xj (by decide) (by decide) (by decide)
 rw [o]
 unfold Yu
 split
 ·intro h;simp at h
 ·intro _;rfl
theorem zeV {x:List UInt8} (hx:x∈signsL):Zc x=⟨4,x,0,x.length,0⟩:=by
 obtain ⟨c,r,rfl,y,h,o,-⟩:=qU x hx;rw [xj y h o]
 unfold Yu
 rw [qV _ hx,if_neg (by simp)]
theorem ziB {x:List UInt8} (hx:yp x=true):Zc x=⟨5,x,0,x.length,0⟩:=by
 obtain ⟨c,r,rfl,o,h⟩:=uC x (by unfold yp at hx;exact List.contains_iff_mem.1 hx)
 rw [yV o]
 unfold Yd
 rw [qT h,if_pos hx]
theorem zgp {x:List UInt8} (hx:Y3 x=true):Zc x=⟨1,x,0,x.length,0⟩:=by
 cases x with
 | nil=>simp [Y3] at hx
 | cons c r =>
  unfold Y3 at hx
  simp only at hx;rw [Bool.and_eq_true,Bool.and_eq_true,Bool.and_eq_true,decide_eq_true_eq] at hx;obtain ⟨⟨⟨o,y⟩,h⟩,A⟩:=hx;have z:(c::r).all (fun c=>yu c.toNat)=true:=by rw [List.all_cons,y,Bool.and_true];simp [yu,o]
  rw [yV o]
  unfold Yd
  rw [qT z,if_neg (by intro e;rw [e] at h;cases h),if_neg (by omega)]
theorem ZR {k n:Int} {s:List UInt8} (h2:k≠2) (h3:k≠3):ZO k n s↔(k=0∧s=[]∧n=0)∨(k=1∧Y3 s=true∧n=0)∨(k=4∧s∈signsL∧n=0)∨(k=5∧yp s=true∧n=0):=by
 have H:xI k n s=s:=by unfold xI;rw [if_neg h2,if_neg h3]
 unfold ZO
 rw [H]
 constructor
 ·rintro ⟨z,o,y,A⟩
  cases s with
  | nil=>exact .inl ⟨o.symm,rfl,A.symm⟩
  | cons x r =>
   right
   cases h1:Zv x.toNat with
   | true =>
    rw [yV h1] at z o y A
    unfold Yd at z o y A
    by_cases hq:yp (Z7 (x::r))=true
    ·rw [if_pos hq] at z o y A
     simp only at z o y A;rw [y] at hq;exact .inr (.inr ⟨o.symm,hq,A.symm⟩)
    ·rw [if_neg hq] at z o y A
     by_cases h20:20<(Z7 (x::r)).length
     ·rw [if_pos h20] at z;simp at z
     ·rw [if_neg h20] at z o y A
      simp only at z o y A;have D:=QH y;rw [y] at hq h20;refine .inl ⟨o.symm,?_,A.symm⟩
      unfold Y3
      simp only;rw [List.all_cons,Bool.and_eq_true] at D;rw [h1,D.2,decide_eq_true (by omega)]
      simp [hq]
   | false =>
    cases h4:Zw x.toNat with
    | true =>
     rw [Ve h1 h4] at z o y A
     unfold XX at z o y A
     split at y
     ·simp at y
     ·simp at y
    | false =>
     by_cases h34:x.toNat=34
     ·rw [V6 h1 h4 h34] at z o
      have:=(zaI _ _ _ _ z)
      unfold yT at o
      rw [this] at o;exact absurd o.symm h3
     ·rw [xj h1 h4 h34] at z o y A
      unfold Yu at z o y A
      by_cases hb:bestS (x::r) 25=[]
      ·rw [if_pos hb] at z;simp at z
      ·rw [if_neg hb] at o y A
       simp only at o y A;rcases (zaG (x::r)).2 with G | ⟨G,-⟩
       ·exact absurd G hb
       ·rw [y] at G
        exact .inr (.inl ⟨o.symm,G,A.symm⟩)
 ·rintro (⟨rfl,rfl,rfl⟩ | ⟨rfl,h,rfl⟩ | ⟨rfl,h,rfl⟩ | ⟨rfl,h,rfl⟩)
  ·exact ⟨rfl,rfl,rfl,rfl⟩
  ·rw [zgp h];exact ⟨rfl,rfl,rfl,rfl⟩
  ·rw [zeV h];exact ⟨rfl,rfl,rfl,rfl⟩
  ·rw [ziB h];exact ⟨rfl,rfl,rfl,rfl⟩
theorem Uu {n:Int} {s:List UInt8} (hn1:n≤9223372036854775807):ZO 2 n s↔s=[]∧0≤n:=by
 unfold ZO
 have A:xI 2 n s=Lib.itoa n:=rfl;rw [A]
 unfold Lib.itoa
 by_cases h:n<0
 ·rw [if_pos h]
  constructor
  ·rintro ⟨G,o,-,-⟩
   have:=zbQ _ G
   rw [this] at o;cases o
  ·rintro ⟨-,z⟩;omega
 ·rw [if_neg h]
  have y:=zaH n.toNat (by omega) [] (fun x hx=>by simp at hx)
  rw [List.append_nil] at y;rw [y]
  constructor
  ·rintro ⟨-,-,D,-⟩;exact ⟨D.symm,by omega⟩
  ·rintro ⟨rfl,z⟩
   refine ⟨rfl,rfl,rfl,?_⟩;show ((n.toNat:Nat):Int)=n
   omega
theorem V7 {n:Int} {s:List UInt8}:ZO 3 n s↔Xw s=true∧n=0:=by
 unfold ZO
 have y:xI 3 n s=yg s:=rfl;rw [y];cases hp:Xw s with
 | false =>
  constructor
  ·rintro ⟨A,-⟩;exact absurd A (Ut s hp)
  ·rintro ⟨h,-⟩;cases h
 | true =>
  have o:=Vc s [] hp;rw [List.append_nil] at o;rw [o]
  constructor
  ·rintro ⟨-,-,-,z⟩;exact ⟨rfl,z.symm⟩
  ·rintro ⟨-,rfl⟩;exact ⟨rfl,rfl,rfl,rfl⟩
structure TT where
 k:Int
 n:Int
 s:List UInt8
def zdF (t:TT):Prop:=ZO t.k t.n t.s∧t.k≠0∧t.n≤9223372036854775807
theorem V8 {x:Nat} (hx:Zw x=true):Zv x=false∧x≠47∧zV x=false:=by
 unfold Zw at hx
 rw [Bool.and_eq_true,decide_eq_true_eq,decide_eq_true_eq] at hx;refine ⟨?_,by omega,?_⟩
 ·unfold Zv
  rw [Bool.or_eq_false_iff,Bool.or_eq_false_iff];refine ⟨⟨by rw [beq_eq_false_iff_ne];omega,?_⟩,?_⟩ <;> (rw [Bool.and_eq_false_iff,decide_eq_false_iff_not,decide_eq_false_iff_not];omega)
 ·unfold zV
  rw [Bool.or_eq_false_iff,Bool.or_eq_false_iff];exact ⟨⟨by rw [beq_eq_false_iff_ne];omega,by rw [beq_eq_false_iff_ne];omega⟩,by rw [beq_eq_false_iff_ne];omega⟩
theorem Uv {x:Nat} (hx:Zv x=true):x≠47∧zV x=false:=by
 unfold Zv at hx
 rw [Bool.or_eq_true,Bool.or_eq_true,beq_iff_eq,Bool.and_eq_true,Bool.and_eq_true,decide_eq_true_eq,decide_eq_true_eq,decide_eq_true_eq,decide_eq_true_eq] at hx;refine ⟨by omega,?_⟩
 unfold zV
 rw [Bool.or_eq_false_iff,Bool.or_eq_false_iff];exact ⟨⟨by rw [beq_eq_false_iff_ne];omega,by rw [beq_eq_false_iff_ne];omega⟩,by rw [beq_eq_false_iff_ne];omega⟩
theorem QI {c:UInt8} {t:List UInt8} (hb:zV c.toNat=false) (h47:c.toNat≠47):Z4 (c::t)=0:=by
 refine zaE hb ?_;rw [zdE,decide_eq_false h47]
 rfl
theorem zaJ {m:List UInt8} (h:m.all okC=true):(10:UInt8) ∉ yg m:=by
 have y:∀m:List UInt8,m.all okC=true→(10:UInt8) ∉ m.flatMap Zs:=by
  intro m
  induction m with
  | nil=>intro _ h;simp at h
  | cons c m ih =>
   intro h o;rw [List.all_cons,Bool.and_eq_true] at h;rw [List.flatMap_cons,List.mem_append] at o;rcases o with o | o
   ·unfold Zs at o
    by_cases h1:c.toNat=92
    ·rw [if_pos h1] at o;revert o;decide
    ·rw [if_neg h1] at o
     by_cases h2:c.toNat=34
     ·rw [if_pos h2] at o;revert o;decide
     ·rw [if_neg h2] at o
      by_cases h3:c.toNat=10
      ·rw [if_pos h3] at o;revert o;decide
      ·rw [if_neg h3,List.mem_singleton] at o
       exact h3 (by rw [←o];rfl)
   ·exact ih h.2 o
 unfold yg
 intro o;rcases List.mem_cons.1 o with o | o
 ·revert o;decide
 ·rcases List.mem_append.1 o with o | o
  ·exact y m h o
  ·rw [List.mem_singleton] at o;revert o;decide
theorem zaK {p:Nat→Bool} (hp:p 10=false) (l:List UInt8):(10:UInt8) ∉ l.takeWhile (fun c=>p c.toNat):=by
 intro h
 have:=VC (p:=fun c=>p c.toNat) l 10 h
 have e:p (10:UInt8).toNat=p 10:=rfl;rw [e,hp] at this;cases this
theorem zeW (r:List UInt8) (he:(Zc r).e=0):ZO (Zc r).k (Zc r).n (Zc r).s∧(Zc r).sz≤r.length∧(10:UInt8) ∉ r.take (Zc r).sz∧((Zc r).k≠2→xI (Zc r).k (Zc r).n (Zc r).s=r.take (Zc r).sz)∧(Zc r).k≤5:=by
 cases r with
 | nil=>exact ⟨(ZR (by decide) (by decide)).2 (.inl ⟨rfl,rfl,rfl⟩),Nat.le_refl _,by simp,fun _=>rfl,by decide⟩
 | cons x r =>
  have o:=(vG (x::r) he).1;cases h1:Zv x.toNat with
  | true =>
   rw [yV h1] at he o ⊢;have z:(x::r).take (Z7 (x::r)).length=Z7 (x::r):=VB _ _;have A:(10:UInt8) ∉ Z7 (x::r):=zaK (by decide) _
   have D:(Z7 (x::r)).all (fun c=>yu c.toNat)=true:=by
    rw [List.all_eq_true];exact fun c J=>VC (p:=fun c=>yu c.toNat) _ c J
   unfold Yd at he o ⊢
   by_cases hq:yp (Z7 (x::r))=true
   ·rw [if_pos hq] at he o ⊢
    simp only at he o ⊢;refine ⟨(ZR (by decide) (by decide)).2 (.inr (.inr (.inr ⟨rfl,hq,rfl⟩))),o,by rw [z];exact A,fun _=>?_,by decide⟩
    rw [z];rfl
   ·rw [if_neg hq] at he o ⊢
    by_cases h20:20<(Z7 (x::r)).length
    ·rw [if_pos h20] at he;simp at he
    ·rw [if_neg h20] at he o ⊢
     simp only at he o ⊢;refine ⟨(ZR (by decide) (by decide)).2 (.inr (.inl ⟨rfl,?_,rfl⟩)),o,by rw [z];exact A,fun _=>?_,by decide⟩
     ·have J:Z7 (x::r)=x::Z7 r:=by unfold Z7;rw [List.takeWhile_cons_of_pos (by simp [yu,h1])]
      rw [J] at D hq h20 ⊢
      unfold Y3
      simp only;rw [List.all_cons,Bool.and_eq_true] at D;rw [h1,D.2,decide_eq_true (by omega)]
      simp [hq]
     ·rw [z];rfl
  | false =>
   cases h4:Zw x.toNat with
   | true =>
    rw [Ve h1 h4] at he o ⊢;have z:(x::r).take (digL (x::r)).length=digL (x::r):=VB _ _;have A:(10:UInt8) ∉ digL (x::r):=zaK (by decide) _
    unfold XX at he o ⊢
    by_cases hv:valA 0 (digL (x::r))<9223372036854775808
    ·rw [if_pos hv] at he o ⊢
     simp only at he o ⊢;exact ⟨(Uu (by omega)).2 ⟨rfl,by omega⟩,o,by rw [z];exact A,fun h=>absurd rfl h,by decide⟩
    ·rw [if_neg hv] at he;simp at he
   | false =>
    by_cases h34:x.toNat=34
    ·have T:x=34:=UInt8.toNat_inj.1 h34
     have Q:=V6 (r:=r) h1 h4 h34;rw [Q] at he
     unfold yT at he
     rw [List.drop_succ_cons,List.drop_zero] at he;obtain ⟨I,rest,-,R,L,N⟩:=Vd _ [] 1 r (by simp) he
     rw [List.nil_append] at N;have G:Xw I=true:=by unfold Xw;rw [L,decide_eq_true N];rfl
     have U:x::r=yg I++rest:=by rw [T,R];unfold yg;simp
     rw [U,Vc I rest G];simp only;rw [List.take_left];exact ⟨V7.2 ⟨G,rfl⟩,by rw [List.length_append];omega,zaJ L,fun _=>rfl,by decide⟩
    ·rw [xj h1 h4 h34] at he o ⊢
     unfold Yu at he o ⊢
     by_cases hb:bestS (x::r) 25=[]
     ·rw [if_pos hb] at he;simp at he
     ·rw [if_neg hb] at o ⊢
      simp only at o ⊢;rcases (zaG (x::r)).2 with H | ⟨H,O⟩
      ·exact absurd H hb
      ·have z:(x::r).take (bestS (x::r) 25).length=bestS (x::r) 25:=by
        unfold Lib.hasPrefix at O
        exact (List.prefix_iff_eq_take.1 (List.isPrefixOf_iff_prefix.1 O)).symm
       have A:∀y∈signsL,(10:UInt8) ∉ y:=by decide
       refine ⟨(ZR (by decide) (by decide)).2 (.inr (.inr (.inl ⟨rfl,H,rfl⟩))),o,by rw [z];exact A _ H,fun _=>?_,by decide⟩
       rw [z];rfl
def zeX (s:List UInt8) (t:Tk):Prop:=t.at0≤s.length∧t.line=1+Lib.countByte (s.take t.at0) 10∧ZO t.k t.n t.s∧(t.k≠2→t.at0+(xI t.k t.n t.s).length≤s.length∧(s.drop t.at0).take (xI t.k t.n t.s).length=xI t.k t.n t.s)∧t.n<9223372036854775808∧t.s.length≤5000
def QJ (s:List UInt8):Nat→List Tk→Prop
 | _,[]=>True
 | a,t::ts=>a≤t.at0∧zeX s t∧QJ s t.at0 ts
theorem zeY (r:List UInt8):(Zc r).n<9223372036854775808:=by
 cases r with
 | nil=>decide
 | cons x r =>
  cases h1:Zv x.toNat with
  | true =>
   rw [yV h1]
   unfold Yd
   split
   ·exact (show (0:Nat)<9223372036854775808 by decide)
   ·split <;> exact (show (0:Nat)<9223372036854775808 by decide)
  | false =>
   cases h4:Zw x.toNat with
   | true =>
    rw [Ve h1 h4]
    unfold XX
    split
    ·assumption
    ·decide
   | false =>
    by_cases h34:x.toNat=34
    ·rw [V6 h1 h4 h34]
     unfold yT
     have h:∀(f:Nat) (m:List UInt8) (a:Nat) (r:List UInt8),(Zq f m a r).n=0:=by
      intro f
      induction f with
      | zero=>intro m a r;rfl
      | succ f ih =>
       intro m a r;cases r with
       | nil=>rfl
       | cons y r =>
        unfold Zq
        split
        ·rfl
        ·split
         ·rfl
         ·split
          ·rfl
          ·exact ih _ _ _
     rw [h]
     decide
    ·rw [xj h1 h4 h34]
     unfold Yu
     split <;> exact (show (0:Nat)<9223372036854775808 by decide)
theorem uD (s:List UInt8) (hs:s.length≤4096):∀(f line a:Nat),a≤s.length→line=1+Lib.countByte (s.take a) 10→(scanS s f line a).2.2=0→QJ s a (scanS s f line a).1
 | 0,_,_,_,_,_=>trivial
 | f+1,line,a,ha,hl,he0=>by
  have O:=vH ha;rw [scanS] at he0 ⊢
  by_cases he:(zQ s a).e≠0
  ·rw [if_pos he] at he0;exact absurd he0 he
  ·rw [if_neg he] at he0 ⊢
   have z:(Zc (s.drop (zP s a))).e=0:=by
    show (zQ s a).e=0
    omega
   obtain ⟨J,T,L,R,-⟩:=zeW (s.drop (zP s a)) z
   have D:yj s line a=1+Lib.countByte (s.take (zP s a)) 10:=by
    unfold yj zP
    rw [hl,List.take_add,uB];omega
   have o:zeX s (tkT s line a):=by
    refine ⟨O,D,J,fun hk=>?_,zeY _,?_⟩
    ·have H:=R hk
     have U:xI (tkT s line a).k (tkT s line a).n (tkT s line a).s=(s.drop (zP s a)).take (Zc (s.drop (zP s a))).sz:=H;rw [U];have N:((s.drop (zP s a)).take (Zc (s.drop (zP s a))).sz).length=(Zc (s.drop (zP s a))).sz:=by rw [List.length_take];omega
     rw [N];rw [List.length_drop] at T;refine ⟨?_,rfl⟩;show zP s a+(Zc (s.drop (zP s a))).sz≤s.length
     omega
    ·have:=zeH (s.drop (zP s a))
     rw [List.length_drop] at this;show (Zc (s.drop (zP s a))).s.length≤5000
     omega
   have y:a≤(tkT s line a).at0:=by show a≤zP s a;unfold zP;omega
   by_cases hk:(zQ s a).k=0
   ·rw [if_pos hk] at he0 ⊢
    exact ⟨y,o,trivial⟩
   ·rw [if_neg hk] at he0 ⊢
    have Q:=YG ha z hk
    have h:yj s line a=1+Lib.countByte (s.take (zP s a+(zQ s a).sz)) 10:=by
     rw [D,List.take_add,uB]
     have:Lib.countByte ((s.drop (zP s a)).take (zQ s a).sz) 10=0:=by
      unfold Lib.countByte
      exact List.count_eq_zero.2 L
     omega
    have I:=uD s hs f (yj s line a) (zP s a+(zQ s a).sz) Q.2 h;generalize scanS s f (yj s line a) (zP s a+(zQ s a).sz)=A at he0 I ⊢
    by_cases hA:A.2.2≠0
    ·rw [if_pos hA] at he0;exact absurd he0 hA
    ·rw [if_neg hA] at he0 ⊢
     have G:=I (by omega)
     refine ⟨y,o,?_⟩;cases hA1:A.1 with
     | nil=>trivial
     | cons t ts =>
      rw [hA1] at G;refine ⟨?_,G.2⟩;have H:zP s a+(zQ s a).sz≤t.at0:=G.1;show zP s a≤t.at0
      omega
theorem Uw (s:List UInt8):∀(f line a:Nat),a≤s.length→s.length<a+f→(scanS s f line a).2.2=0→∃ts h,(scanS s f line a).1=ts++[⟨0,[],0,h,s.length⟩]
 | 0,_,_,h1,h2,_=>by omega
 | f+1,line,a,ha,hf,he0=>by
  have L:=vH ha;rw [scanS] at he0 ⊢
  by_cases he:(zQ s a).e≠0
  ·rw [if_pos he] at he0;exact absurd he0 he
  ·rw [if_neg he] at he0 ⊢
   have o:(zQ s a).e=0:=by omega
   by_cases hk:(zQ s a).k=0
   ·rw [if_pos hk] at he0 ⊢
    have z:=(vG (s.drop (zP s a)) o).2.2 hk;have H:=congrArg List.length z;rw [List.length_drop,List.length_nil] at H;have y:zP s a=s.length:=by omega
    have J:zQ s a=⟨0,[],0,0,0⟩:=by
     show Zc (s.drop (zP s a))=_
     rw [z];rfl
    refine ⟨[],yj s line a,?_⟩
    unfold tkT
    rw [J,y]
    rfl
   ·rw [if_neg hk] at he0 ⊢
    have I:=YG ha o hk;have D:=Uw s f (yj s line a) (zP s a+(zQ s a).sz) I.2 (by omega)
    generalize scanS s f (yj s line a) (zP s a+(zQ s a).sz)=A at he0 D ⊢
    by_cases hA:A.2.2≠0
    ·rw [if_pos hA] at he0;exact absurd he0 hA
    ·rw [if_neg hA] at he0 ⊢
     obtain ⟨ts,h,G⟩:=D (by omega)
     exact ⟨tkT s line a::ts,h,by rw [G];rfl⟩
theorem zbR (s:List UInt8) (f line a:Nat) (h:(scanS s f line a).2.2≠0):(scanS s f line a).1=[]:=by
 cases f with
 | zero=>rfl
 | succ f =>
  rw [scanS] at h ⊢
  by_cases he:(zQ s a).e≠0
  ·rw [if_pos he]
  ·rw [if_neg he] at h ⊢
   by_cases hk:(zQ s a).k=0
   ·rw [if_pos hk] at h;exact absurd rfl h
   ·rw [if_neg hk] at h ⊢
    generalize scanS s f (yj s line a) (zP s a+(zQ s a).sz)=A at h ⊢
    by_cases hA:A.2.2≠0
    ·rw [if_pos hA]
    ·rw [if_neg hA] at h;exact absurd rfl h
theorem Ym (s:List UInt8):((zW s).2.2≠0→(zW s).1=[])∧((zW s).2.2=0→s.length≤4096∧QJ s 0 (zW s).1∧∃ts line',(zW s).1=ts++[⟨0,[],0,line',s.length⟩]):=by
 unfold zW
 by_cases h:4096<s.length
 ·rw [if_pos h]
  exact ⟨fun _=>rfl,fun h=>by simp at h⟩
 ·rw [if_neg h]
  refine ⟨zbR s _ 1 0,fun he=>⟨by omega,uD s (by omega) _ 1 0 (Nat.zero_le _) (by simp [Lib.countByte]) he,Uw s _ 1 0 (Nat.zero_le _) (by omega) he⟩⟩
end Go.Proofs.YtpejpbbdgblbeaaGreatDoor
