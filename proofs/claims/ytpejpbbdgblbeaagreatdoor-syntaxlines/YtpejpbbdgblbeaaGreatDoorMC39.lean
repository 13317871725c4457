import Derived.Test.YtpejpbbdgblbeaaGreatDoorMC38
namespace Go.Proofs.YtpejpbbdgblbeaaGreatDoor
open Go.RowKit Go.Shelf
theorem zbE (u:Nat):∀c∈Lib.decDigits u,ZB c.toNat=true:=by
 induction u using Nat.strongRecOn with
 | _ u ih =>
  have s:∀d:Nat,d<10→ZB (UInt8.ofNat (48+d)).toNat=true:=by decide
  intro c o;rw [Lib.decDigits] at o
  by_cases h:u<10
  ·rw [dif_pos h,List.mem_singleton] at o
   rw [o];exact s u h
  ·rw [dif_neg h,List.mem_append,List.mem_singleton] at o
   rcases o with o | o
   ·exact ih (u / 10) (by omega) c o
   ·rw [o];exact s (u % 10) (by omega)
theorem zfC (u:Nat):Lib.decDigits u≠[]:=by
 intro h
 have:=congrArg List.length h
 rw [Lib.decDigits_length,List.length_nil] at this
 have:=Lib.nDigits_pos u
 omega
theorem zex (u:Nat):valA 0 (Lib.decDigits u)=u:=by
 induction u using Nat.strongRecOn with
 | _ u ih =>
  have o:∀d:Nat,d<10→(UInt8.ofNat (48+d)).toNat-48=d:=by decide
  rw [Lib.decDigits]
  by_cases h:u<10
  ·rw [dif_pos h]
   show 0*10+((UInt8.ofNat (48+u)).toNat-48)=u
   rw [o u h];omega
  ·rw [dif_neg h,UX,ih (u / 10) (by omega),o (u % 10) (by omega)]
   omega
theorem zdn (u:Nat) (t:List UInt8) (ht:∀x∈t.head?,ZB x.toNat=false):digL (Lib.decDigits u++t)=Lib.decDigits u:=by
 unfold digL
 rw [xJ t _ (by rw [y6 _ (zbE u)])]
 cases t with
 | nil=>simp
 | cons x t=>rw [List.takeWhile_cons_of_neg (by rw [ht x rfl];simp),List.append_nil]
theorem zdo (u:Nat) (hu:u<9223372036854775808) (t:List UInt8) (ht:∀x∈t.head?,ZB x.toNat=false):Zg (Lib.decDigits u++t)=⟨2,[],u,(Lib.decDigits u).length,0⟩:=by
 obtain ⟨x,r,o⟩:∃x r,Lib.decDigits u=x::r:=by
  cases h:Lib.decDigits u with
  | nil=>exact absurd h (zfC u)
  | cons x r=>exact ⟨x,r,rfl⟩
 have s:ZB x.toNat=true:=zbE u x (by rw [o];exact List.mem_cons_self ..)
 have z:ZJ x.toNat=false:=by
  unfold ZB at s
  rw [Bool.and_eq_true,decide_eq_true_eq,decide_eq_true_eq] at s
  unfold ZJ
  rw [Bool.or_eq_false_iff,Bool.or_eq_false_iff];refine ⟨⟨by rw [beq_eq_false_iff_ne];omega,?_⟩,?_⟩ <;> (rw [Bool.and_eq_false_iff,decide_eq_false_iff_not,decide_eq_false_iff_not];omega)
 have hd:=zdn u t ht
 have y:Zg (Lib.decDigits u++t)=Xy (Lib.decDigits u++t):=by
  rw [o,List.cons_append]
  unfold Zg
  simp only;rw [if_neg (by rw [z];simp),if_pos s]
 rw [y]
 unfold Xy
 rw [hd,zex,if_pos hu]
theorem Qy:∀(f:Nat) (meant:List UInt8) (at0:Nat) (r:List UInt8),(Zj f meant at0 r).e=0→(Zj f meant at0 r).k=3
 | 0,_,_,_,h=>by simp [Zj] at h
 | _+1,_,_,[],h=>by simp [Zj] at h
 | f+1,meant,at0,x::r,h=>by
  unfold Zj at h ⊢
  by_cases h1:x.toNat=34
  ·rw [if_pos h1]
  ·rw [if_neg h1] at h ⊢
   by_cases h2:(vu (x::r)).2=0
   ·rw [if_pos h2] at h;simp at h
   ·rw [if_neg h2] at h ⊢
    by_cases h3:meant.length=255
    ·rw [if_pos h3] at h;simp at h
    ·rw [if_neg h3] at h ⊢
     exact Qy f _ _ _ h
def XZ (s:List UInt8):Bool:=match s with | []=>false | x::r=>ZJ x.toNat&&r.all (fun c=>Yt c.toNat)&&!yA s&&decide (s.length≤20)
theorem UY {s:List UInt8} (h:s.all (fun c=>Yt c.toNat)=true):Z6 s=s:=y6 s (fun x hx=>List.all_eq_true.1 h x hx)
theorem qz {s:List UInt8} (h:Z6 s=s):s.all (fun c=>Yt c.toNat)=true:=by
 rw [List.all_eq_true];intro x o;exact vT (p:=fun c=>Yt c.toNat) s x (by rw [←h] at o;exact o)
theorem Qz:∀x∈wordsL,∃c r,x=c::r∧ZJ c.toNat=true∧x.all (fun c=>Yt c.toNat)=true:=by
 intro x h;have o:∀x∈wordsL,x≠[]:=by decide
 have y:∀x∈wordsL,x.all (fun c=>Yt c.toNat)=true:=by decide
 have s:∀x∈wordsL,ZJ (x.headD 0).toNat=true:=by decide
 cases x with
 | nil=>exact absurd rfl (o _ h)
 | cons c r=>exact ⟨c,r,rfl,s _ h,y _ h⟩
theorem zcg:∀x∈signsL,∃c r,x=c::r∧ZJ c.toNat=false∧ZB c.toNat=false∧c.toNat≠34∧Zd c.toNat=false:=by
 intro x h;have s:∀x∈signsL,x≠[]:=by decide
 have o:∀x∈signsL,ZJ (x.headD 0).toNat=false∧ZB (x.headD 0).toNat=false∧(x.headD 0).toNat≠34∧Zd (x.headD 0).toNat=false:=by decide
 cases x with
 | nil=>exact absurd rfl (s _ h)
 | cons c r=>exact ⟨c,r,rfl,o _ h⟩
theorem YG {x:UInt8} {r:List UInt8} (h:ZJ x.toNat=true):Zg (x::r)=Yk (x::r):=by
 unfold Zg;simp only;rw [if_pos h]
theorem vA {x:UInt8} {r:List UInt8} (h:ZJ x.toNat=false) (h2:ZB x.toNat=true):Zg (x::r)=Xy (x::r):=by
 unfold Zg;simp only;rw [if_neg (by rw [h];simp),if_pos h2]
theorem Vw {x:UInt8} {r:List UInt8} (h:ZJ x.toNat=false) (h2:ZB x.toNat=false) (h3:x.toNat=34):Zg (x::r)=yK (x::r):=by
 unfold Zg;simp only;rw [if_neg (by rw [h];simp),if_neg (by rw [h2];simp),if_pos h3]
theorem xT {x:UInt8} {r:List UInt8} (h:ZJ x.toNat=false) (h2:ZB x.toNat=false) (h3:x.toNat≠34):Zg (x::r)=Yu (x::r):=by
 unfold Zg;simp only;rw [if_neg (by rw [h];simp),if_neg (by rw [h2];simp),if_neg h3]
theorem zch:∀x∈signsL,bestS x 25=x:=by decide +kernel
theorem zaH (t:List UInt8):(Zg (45::t)).e=0→(Zg (45::t)).k=4:=by
 have o:Zg (45::t)=Yu (45::t):=xT (by decide) (by decide) (by decide)
 rw [o]
 unfold Yu
 split
 ·intro h;simp at h
 ·intro _;rfl
theorem zdp {x:List UInt8} (hx:x∈signsL):Zg x=⟨4,x,0,x.length,0⟩:=by
 obtain ⟨c,r,rfl,h,s,o,-⟩:=zcg x hx;rw [xT h s o]
 unfold Yu
 rw [zch _ hx,if_neg (by simp)]
theorem zgs {x:List UInt8} (hx:yA x=true):Zg x=⟨5,x,0,x.length,0⟩:=by
 obtain ⟨c,r,rfl,h,o⟩:=Qz x (by unfold yA at hx;exact List.contains_iff_mem.1 hx)
 rw [YG h]
 unfold Yk
 rw [UY o,if_pos hx]
theorem zey {x:List UInt8} (hx:XZ x=true):Zg x=⟨1,x,0,x.length,0⟩:=by
 cases x with
 | nil=>simp [XZ] at hx
 | cons c r =>
  unfold XZ at hx
  simp only at hx;rw [Bool.and_eq_true,Bool.and_eq_true,Bool.and_eq_true,decide_eq_true_eq] at hx;obtain ⟨⟨⟨h,s⟩,o⟩,z⟩:=hx;have y:(c::r).all (fun c=>Yt c.toNat)=true:=by rw [List.all_cons,s,Bool.and_true];simp [Yt,h]
  rw [YG h]
  unfold Yk
  rw [UY y,if_neg (by intro e;rw [e] at o;cases o),if_neg (by omega)]
theorem xd {k n:Int} {s:List UInt8} (h2:k≠2) (h3:k≠3):YO k n s↔(k=0∧s=[]∧n=0)∨(k=1∧XZ s=true∧n=0)∨(k=4∧s∈signsL∧n=0)∨(k=5∧yA s=true∧n=0):=by
 have H:vy k n s=s:=by unfold vy;rw [if_neg h2,if_neg h3]
 unfold YO
 rw [H]
 constructor
 ·rintro ⟨z,o,y,A⟩
  cases s with
  | nil=>exact .inl ⟨o.symm,rfl,A.symm⟩
  | cons x r =>
   right
   cases h1:ZJ x.toNat with
   | true =>
    rw [YG h1] at z o y A
    unfold Yk at z o y A
    by_cases hq:yA (Z6 (x::r))=true
    ·rw [if_pos hq] at z o y A
     simp only at z o y A;rw [y] at hq;exact .inr (.inr ⟨o.symm,hq,A.symm⟩)
    ·rw [if_neg hq] at z o y A
     by_cases h20:20<(Z6 (x::r)).length
     ·rw [if_pos h20] at z;simp at z
     ·rw [if_neg h20] at z o y A
      simp only at z o y A;have D:=qz y;rw [y] at hq h20;refine .inl ⟨o.symm,?_,A.symm⟩
      unfold XZ
      simp only;rw [List.all_cons,Bool.and_eq_true] at D;rw [h1,D.2,decide_eq_true (by omega)]
      simp [hq]
   | false =>
    cases h4:ZB x.toNat with
    | true =>
     rw [vA h1 h4] at z o y A
     unfold Xy at z o y A
     split at y
     ·simp at y
     ·simp at y
    | false =>
     by_cases h34:x.toNat=34
     ·rw [Vw h1 h4 h34] at z o
      have:=(Qy _ _ _ _ z)
      unfold yK at o
      rw [this] at o;exact absurd o.symm h3
     ·rw [xT h1 h4 h34] at z o y A
      unfold Yu at z o y A
      by_cases hb:bestS (x::r) 25=[]
      ·rw [if_pos hb] at z;simp at z
      ·rw [if_neg hb] at o y A
       simp only at o y A;rcases (Qx (x::r)).2 with G | ⟨G,-⟩
       ·exact absurd G hb
       ·rw [y] at G
        exact .inr (.inl ⟨o.symm,G,A.symm⟩)
 ·rintro (⟨rfl,rfl,rfl⟩ | ⟨rfl,h,rfl⟩ | ⟨rfl,h,rfl⟩ | ⟨rfl,h,rfl⟩)
  ·exact ⟨rfl,rfl,rfl,rfl⟩
  ·rw [zey h];exact ⟨rfl,rfl,rfl,rfl⟩
  ·rw [zdp h];exact ⟨rfl,rfl,rfl,rfl⟩
  ·rw [zgs h];exact ⟨rfl,rfl,rfl,rfl⟩
theorem zdq {n:Int} {s:List UInt8} (hn1:n≤9223372036854775807):YO 2 n s↔s=[]∧0≤n:=by
 unfold YO
 have A:vy 2 n s=Lib.itoa n:=rfl;rw [A]
 unfold Lib.itoa
 by_cases h:n<0
 ·rw [if_pos h]
  constructor
  ·rintro ⟨D,y,-,-⟩
   have:=zaH _ D
   rw [this] at y;cases y
  ·rintro ⟨-,G⟩;omega
 ·rw [if_neg h]
  have o:=zdo n.toNat (by omega) [] (fun x hx=>by simp at hx)
  rw [List.append_nil] at o;rw [o]
  constructor
  ·rintro ⟨-,-,z,-⟩;exact ⟨z.symm,by omega⟩
  ·rintro ⟨rfl,G⟩
   refine ⟨rfl,rfl,rfl,?_⟩;show ((n.toNat:Nat):Int)=n
   omega
theorem zci {n:Int} {s:List UInt8}:YO 3 n s↔Xa s=true∧n=0:=by
 unfold YO
 have z:vy 3 n s=yj s:=rfl;rw [z];cases hp:Xa s with
 | false =>
  constructor
  ·rintro ⟨A,-⟩;exact absurd A (uD s hp)
  ·rintro ⟨h,-⟩;cases h
 | true =>
  have o:=uC s [] hp;rw [List.append_nil] at o;rw [o]
  constructor
  ·rintro ⟨-,-,-,y⟩;exact ⟨rfl,y.symm⟩
  ·rintro ⟨-,rfl⟩;exact ⟨rfl,rfl,rfl,rfl⟩
theorem QA {m:List UInt8} (h:m.all okC=true):(10:UInt8) ∉ yj m:=by
 have s:∀m:List UInt8,m.all okC=true→(10:UInt8) ∉ m.flatMap Zl:=by
  intro m
  induction m with
  | nil=>intro _ h;simp at h
  | cons c m ih =>
   intro h o;rw [List.all_cons,Bool.and_eq_true] at h;rw [List.flatMap_cons,List.mem_append] at o;rcases o with o | o
   ·unfold Zl at o
    by_cases h1:c.toNat=92
    ·rw [if_pos h1] at o;revert o;decide
    ·rw [if_neg h1] at o
     by_cases h2:c.toNat=34
     ·rw [if_pos h2] at o;revert o;decide
     ·rw [if_neg h2] at o
      by_cases h3:c.toNat=10
      ·rw [if_pos h3] at o;revert o;decide
      ·rw [if_neg h3,List.mem_singleton] at o
       exact h3 (by rw [←o];rfl)
   ·exact ih h.2 o
 unfold yj
 intro o;rcases List.mem_cons.1 o with o | o
 ·revert o;decide
 ·rcases List.mem_append.1 o with o | o
  ·exact s m h o
  ·rw [List.mem_singleton] at o;revert o;decide
theorem QB {p:Nat→Bool} (hp:p 10=false) (l:List UInt8):(10:UInt8) ∉ l.takeWhile (fun c=>p c.toNat):=by
 intro h
 have:=vT (p:=fun c=>p c.toNat) l 10 h
 have e:p (10:UInt8).toNat=p 10:=rfl;rw [e,hp] at this;cases this
theorem zdr (r:List UInt8) (he:(Zg r).e=0):YO (Zg r).k (Zg r).n (Zg r).s∧(Zg r).sz≤r.length∧(10:UInt8) ∉ r.take (Zg r).sz∧((Zg r).k≠2→vy (Zg r).k (Zg r).n (Zg r).s=r.take (Zg r).sz)∧(Zg r).k≤5:=by
 cases r with
 | nil=>exact ⟨(xd (by decide) (by decide)).2 (.inl ⟨rfl,rfl,rfl⟩),Nat.le_refl _,by simp,fun _=>rfl,by decide⟩
 | cons x r =>
  have o:=(vU (x::r) he).1;cases h1:ZJ x.toNat with
  | true =>
   rw [YG h1] at he o ⊢;have z:(x::r).take (Z6 (x::r)).length=Z6 (x::r):=vS _ _;have A:(10:UInt8) ∉ Z6 (x::r):=QB (by decide) _
   have D:(Z6 (x::r)).all (fun c=>Yt c.toNat)=true:=by
    rw [List.all_eq_true];exact fun c I=>vT (p:=fun c=>Yt c.toNat) _ c I
   unfold Yk at he o ⊢
   by_cases hq:yA (Z6 (x::r))=true
   ·rw [if_pos hq] at he o ⊢
    simp only at he o ⊢;refine ⟨(xd (by decide) (by decide)).2 (.inr (.inr (.inr ⟨rfl,hq,rfl⟩))),o,by rw [z];exact A,fun _=>?_,by decide⟩
    rw [z];rfl
   ·rw [if_neg hq] at he o ⊢
    by_cases h20:20<(Z6 (x::r)).length
    ·rw [if_pos h20] at he;simp at he
    ·rw [if_neg h20] at he o ⊢
     simp only at he o ⊢;refine ⟨(xd (by decide) (by decide)).2 (.inr (.inl ⟨rfl,?_,rfl⟩)),o,by rw [z];exact A,fun _=>?_,by decide⟩
     ·have I:Z6 (x::r)=x::Z6 r:=by unfold Z6;rw [List.takeWhile_cons_of_pos (by simp [Yt,h1])]
      rw [I] at D hq h20 ⊢
      unfold XZ
      simp only;rw [List.all_cons,Bool.and_eq_true] at D;rw [h1,D.2,decide_eq_true (by omega)]
      simp [hq]
     ·rw [z];rfl
  | false =>
   cases h4:ZB x.toNat with
   | true =>
    rw [vA h1 h4] at he o ⊢;have z:(x::r).take (digL (x::r)).length=digL (x::r):=vS _ _;have A:(10:UInt8) ∉ digL (x::r):=QB (by decide) _
    unfold Xy at he o ⊢
    by_cases hv:valA 0 (digL (x::r))<9223372036854775808
    ·rw [if_pos hv] at he o ⊢
     simp only at he o ⊢;exact ⟨(zdq (by omega)).2 ⟨rfl,by omega⟩,o,by rw [z];exact A,fun h=>absurd rfl h,by decide⟩
    ·rw [if_neg hv] at he;simp at he
   | false =>
    by_cases h34:x.toNat=34
    ·have R:x=34:=UInt8.toNat_inj.1 h34
     have Q:=Vw (r:=r) h1 h4 h34;rw [Q] at he
     unfold yK at he
     rw [List.drop_succ_cons,List.drop_zero] at he;obtain ⟨J,rest,-,T,L,K⟩:=vz _ [] 1 r (by simp) he
     rw [List.nil_append] at K;have G:Xa J=true:=by unfold Xa;rw [L,decide_eq_true K];rfl
     have O:x::r=yj J++rest:=by rw [R,T];unfold yj;simp
     rw [O,uC J rest G];simp only;rw [List.take_left];exact ⟨zci.2 ⟨G,rfl⟩,by rw [List.length_append];omega,QA L,fun _=>rfl,by decide⟩
    ·rw [xT h1 h4 h34] at he o ⊢
     unfold Yu at he o ⊢
     by_cases hb:bestS (x::r) 25=[]
     ·rw [if_pos hb] at he;simp at he
     ·rw [if_neg hb] at o ⊢
      simp only at o ⊢;rcases (Qx (x::r)).2 with H | ⟨H,N⟩
      ·exact absurd H hb
      ·have z:(x::r).take (bestS (x::r) 25).length=bestS (x::r) 25:=by
        unfold Lib.hasPrefix at N
        exact (List.prefix_iff_eq_take.1 (List.isPrefixOf_iff_prefix.1 N)).symm
       have A:∀y∈signsL,(10:UInt8) ∉ y:=by decide
       refine ⟨(xd (by decide) (by decide)).2 (.inr (.inr (.inl ⟨rfl,H,rfl⟩))),o,by rw [z];exact A _ H,fun _=>?_,by decide⟩
       rw [z];rfl
def zds (s:List UInt8) (t:Tk):Prop:=t.at0≤s.length∧t.line=1+Lib.countByte (s.take t.at0) 10∧YO t.k t.n t.s∧(t.k≠2→t.at0+(vy t.k t.n t.s).length≤s.length∧(s.drop t.at0).take (vy t.k t.n t.s).length=vy t.k t.n t.s)∧t.n<9223372036854775808∧t.s.length≤5000
def qA (s:List UInt8):Nat→List Tk→Prop
 | _,[]=>True
 | a,t::ts=>a≤t.at0∧zds s t∧qA s t.at0 ts
theorem zfD (r:List UInt8):(Zg r).n<9223372036854775808:=by
 cases r with
 | nil=>decide
 | cons x r =>
  cases h1:ZJ x.toNat with
  | true =>
   rw [YG h1]
   unfold Yk
   split
   ·exact (show (0:Nat)<9223372036854775808 by decide)
   ·split <;> exact (show (0:Nat)<9223372036854775808 by decide)
  | false =>
   cases h4:ZB x.toNat with
   | true =>
    rw [vA h1 h4]
    unfold Xy
    split
    ·assumption
    ·decide
   | false =>
    by_cases h34:x.toNat=34
    ·rw [Vw h1 h4 h34]
     unfold yK
     have h:∀(f:Nat) (m:List UInt8) (a:Nat) (r:List UInt8),(Zj f m a r).n=0:=by
      intro f
      induction f with
      | zero=>intro m a r;rfl
      | succ f ih =>
       intro m a r;cases r with
       | nil=>rfl
       | cons y r =>
        unfold Zj
        split
        ·rfl
        ·split
         ·rfl
         ·split
          ·rfl
          ·exact ih _ _ _
     rw [h]
     decide
    ·rw [xT h1 h4 h34]
     unfold Yu
     split <;> exact (show (0:Nat)<9223372036854775808 by decide)
theorem VT (s:List UInt8) (hs:s.length≤4096):∀(f line a:Nat),a≤s.length→line=1+Lib.countByte (s.take a) 10→(scanS s f line a).2.2=0→qA s a (scanS s f line a).1
 | 0,_,_,_,_,_=>trivial
 | f+1,line,a,ha,hl,he0=>by
  have T:=xS ha;rw [scanS] at he0 ⊢
  by_cases he:(zG s a).e≠0
  ·rw [if_pos he] at he0;exact absurd he0 he
  ·rw [if_neg he] at he0 ⊢
   have o:(Zg (s.drop (zC s a))).e=0:=by
    show (zG s a).e=0
    omega
   obtain ⟨Q,J,N,K,-⟩:=zdr (s.drop (zC s a)) o
   have h:ZF s line a=1+Lib.countByte (s.take (zC s a)) 10:=by
    unfold ZF zC
    rw [hl,List.take_add,VS];omega
   have z:zds s (tkT s line a):=by
    refine ⟨T,h,Q,fun hk=>?_,zfD _,?_⟩
    ·have I:=K hk
     have O:vy (tkT s line a).k (tkT s line a).n (tkT s line a).s=(s.drop (zC s a)).take (Zg (s.drop (zC s a))).sz:=I;rw [O];have R:((s.drop (zC s a)).take (Zg (s.drop (zC s a))).sz).length=(Zg (s.drop (zC s a))).sz:=by rw [List.length_take];omega
     rw [R];rw [List.length_drop] at J;refine ⟨?_,rfl⟩;show zC s a+(Zg (s.drop (zC s a))).sz≤s.length
     omega
    ·have:=zc9 (s.drop (zC s a))
     rw [List.length_drop] at this;show (Zg (s.drop (zC s a))).s.length≤5000
     omega
   have y:a≤(tkT s line a).at0:=by show a≤zC s a;unfold zC;omega
   by_cases hk:(zG s a).k=0
   ·rw [if_pos hk] at he0 ⊢
    exact ⟨y,z,trivial⟩
   ·rw [if_neg hk] at he0 ⊢
    have L:=yM ha o hk
    have D:ZF s line a=1+Lib.countByte (s.take (zC s a+(zG s a).sz)) 10:=by
     rw [h,List.take_add,VS]
     have:Lib.countByte ((s.drop (zC s a)).take (zG s a).sz) 10=0:=by
      unfold Lib.countByte
      exact List.count_eq_zero.2 N
     omega
    have H:=VT s hs f (ZF s line a) (zC s a+(zG s a).sz) L.2 D;generalize scanS s f (ZF s line a) (zC s a+(zG s a).sz)=A at he0 H ⊢
    by_cases hA:A.2.2≠0
    ·rw [if_pos hA] at he0;exact absurd he0 hA
    ·rw [if_neg hA] at he0 ⊢
     have G:=H (by omega)
     refine ⟨y,z,?_⟩;cases hA1:A.1 with
     | nil=>trivial
     | cons t ts =>
      rw [hA1] at G;refine ⟨?_,G.2⟩;have I:zC s a+(zG s a).sz≤t.at0:=G.1;show zC s a≤t.at0
      omega
theorem uE (s:List UInt8):∀(f line a:Nat),a≤s.length→s.length<a+f→(scanS s f line a).2.2=0→∃ts h,(scanS s f line a).1=ts++[⟨0,[],0,h,s.length⟩]
 | 0,_,_,h1,h2,_=>by omega
 | f+1,line,a,ha,hf,he0=>by
  have K:=xS ha;rw [scanS] at he0 ⊢
  by_cases he:(zG s a).e≠0
  ·rw [if_pos he] at he0;exact absurd he0 he
  ·rw [if_neg he] at he0 ⊢
   have o:(zG s a).e=0:=by omega
   by_cases hk:(zG s a).k=0
   ·rw [if_pos hk] at he0 ⊢
    have D:=(vU (s.drop (zC s a)) o).2.2 hk;have G:=congrArg List.length D;rw [List.length_drop,List.length_nil] at G;have y:zC s a=s.length:=by omega
    have I:zG s a=⟨0,[],0,0,0⟩:=by
     show Zg (s.drop (zC s a))=_
     rw [D];rfl
    refine ⟨[],ZF s line a,?_⟩
    unfold tkT
    rw [I,y]
    rfl
   ·rw [if_neg hk] at he0 ⊢
    have H:=yM ha o hk;have z:=uE s f (ZF s line a) (zC s a+(zG s a).sz) H.2 (by omega)
    generalize scanS s f (ZF s line a) (zC s a+(zG s a).sz)=A at he0 z ⊢
    by_cases hA:A.2.2≠0
    ·rw [if_pos hA] at he0;exact absurd he0 hA
    ·rw [if_neg hA] at he0 ⊢
     obtain ⟨ts,h,J⟩:=z (by omega)
     exact ⟨tkT s line a::ts,h,by rw [J];rfl⟩
theorem zaI (s:List UInt8) (f line a:Nat) (h:(scanS s f line a).2.2≠0):(scanS s f line a).1=[]:=by
 cases f with
 | zero=>rfl
 | succ f =>
  rw [scanS] at h ⊢
  by_cases he:(zG s a).e≠0
  ·rw [if_pos he]
  ·rw [if_neg he] at h ⊢
   by_cases hk:(zG s a).k=0
   ·rw [if_pos hk] at h;exact absurd rfl h
   ·rw [if_neg hk] at h ⊢
    generalize scanS s f (ZF s line a) (zC s a+(zG s a).sz)=A at h ⊢
    by_cases hA:A.2.2≠0
    ·rw [if_pos hA]
    ·rw [if_neg hA] at h;exact absurd rfl h
theorem xz (s:List UInt8):((zM s).2.2≠0→(zM s).1=[])∧((zM s).2.2=0→s.length≤4096∧qA s 0 (zM s).1∧∃ts line',(zM s).1=ts++[⟨0,[],0,line',s.length⟩]):=by
 unfold zM
 by_cases h:4096<s.length
 ·rw [if_pos h]
  exact ⟨fun _=>rfl,fun h=>by simp at h⟩
 ·rw [if_neg h]
  refine ⟨zaI s _ 1 0,fun he=>⟨by omega,VT s (by omega) _ 1 0 (Nat.zero_le _) (by simp [Lib.countByte]) he,uE s _ 1 0 (Nat.zero_le _) (by omega) he⟩⟩
end Go.Proofs.YtpejpbbdgblbeaaGreatDoor
