import Derived.Test.YtpejpbbdgblbeaaGreatDoorMC44
import Derived.Test.YtpejpbbdgblbeaaGreatDoorMC13
import Derived.Test.YtpejpbbdgblbeaaGreatDoorMC6
import Derived.BigQuiet
namespace Go.Proofs.YtpejpbbdgblbeaaGreatDoor
open Go.RowKit Go.Shelf
set_option maxHeartbeats 16000000
set_option maxRecDepth 100000
theorem zdH (u:Nat):∀c∈Lib.decDigits u,Zn c.toNat=true:=by
 induction u using Nat.strongRecOn with
 | _ u ih =>
  have key:∀d:Nat,d<10→Zn (UInt8.ofNat (48+d)).toNat=true:=by decide
  intro c hc;rw [Lib.decDigits] at hc
  by_cases h:u<10
  ·rw [dif_pos h,List.mem_singleton] at hc
   rw [hc];exact key u h
  ·rw [dif_neg h,List.mem_append,List.mem_singleton] at hc
   rcases hc with hc | hc
   ·exact ih (u / 10) (by omega) c hc
   ·rw [hc];exact key (u % 10) (by omega)
theorem zhR (u:Nat):Lib.decDigits u≠[]:=by
 intro h
 have:=congrArg List.length h
 rw [Lib.decDigits_length,List.length_nil] at this
 have:=Lib.nDigits_pos u
 omega
theorem zgS (u:Nat):valA 0 (Lib.decDigits u)=u:=by
 induction u using Nat.strongRecOn with
 | _ u ih =>
  have key:∀d:Nat,d<10→(UInt8.ofNat (48+d)).toNat-48=d:=by decide
  rw [Lib.decDigits]
  by_cases h:u<10
  ·rw [dif_pos h]
   show 0*10+((UInt8.ofNat (48+u)).toNat-48)=u
   rw [key u h];omega
  ·rw [dif_neg h,uQ,ih (u / 10) (by omega),key (u % 10) (by omega)]
   omega
theorem zfI (u:Nat) (t:List UInt8) (ht:∀x∈t.head?,Zn x.toNat=false):digL (Lib.decDigits u++t)=Lib.decDigits u:=by
 unfold digL
 rw [Vu t _ (by rw [xQ _ (zdH u)])]
 cases t with
 | nil=>simp
 | cons x t=>rw [List.takeWhile_cons_of_neg (by rw [ht x rfl];simp),List.append_nil]
theorem zfJ (u:Nat) (hu:u<9223372036854775808) (t:List UInt8) (ht:∀x∈t.head?,Zn x.toNat=false):Zc (Lib.decDigits u++t)=⟨2,[],u,(Lib.decDigits u).length,0⟩:=by
 obtain ⟨x,r,hxr⟩:∃x r,Lib.decDigits u=x::r:=by
  cases h:Lib.decDigits u with
  | nil=>exact absurd h (zhR u)
  | cons x r=>exact ⟨x,r,rfl⟩
 have hx:Zn x.toNat=true:=zdH u x (by rw [hxr];exact List.mem_cons_self ..)
 have hl:Zv x.toNat=false:=by
  unfold Zn at hx
  rw [Bool.and_eq_true,decide_eq_true_eq,decide_eq_true_eq] at hx
  unfold Zv
  rw [Bool.or_eq_false_iff,Bool.or_eq_false_iff];refine ⟨⟨by rw [beq_eq_false_iff_ne];omega,?_⟩,?_⟩ <;> (rw [Bool.and_eq_false_iff,decide_eq_false_iff_not,decide_eq_false_iff_not];omega)
 have hd:=zfI u t ht
 have h1:Zc (Lib.decDigits u++t)=xA (Lib.decDigits u++t):=by
  rw [hxr,List.cons_append]
  unfold Zc
  simp only;rw [if_neg (by rw [hl];simp),if_pos hx]
 rw [h1]
 unfold xA
 rw [hd,zgS,if_pos hu]
theorem zbx:∀(f:Nat) (meant:List UInt8) (at0:Nat) (r:List UInt8),(Ze f meant at0 r).e=0→(Ze f meant at0 r).k=3
 | 0,_,_,_,h=>by simp [Ze] at h
 | _+1,_,_,[],h=>by simp [Ze] at h
 | f+1,meant,at0,x::r,h=>by
  unfold Ze at h ⊢
  by_cases h1:x.toNat=34
  ·rw [if_pos h1]
  ·rw [if_neg h1] at h ⊢
   by_cases h2:(XV (x::r)).2=0
   ·rw [if_pos h2] at h;simp at h
   ·rw [if_neg h2] at h ⊢
    by_cases h3:meant.length=255
    ·rw [if_pos h3] at h;simp at h
    ·rw [if_neg h3] at h ⊢
     exact zbx f _ _ _ h
def VB (s:List UInt8):Bool:=match s with | []=>false | x::r=>Zv x.toNat&&r.all (fun c=>Ym c.toNat)&&!yZ s&&decide (s.length≤20)
theorem QT {s:List UInt8} (h:s.all (fun c=>Ym c.toNat)=true):yz s=s:=xQ s (fun x hx=>List.all_eq_true.1 h x hx)
theorem zay {s:List UInt8} (h:yz s=s):s.all (fun c=>Ym c.toNat)=true:=by
 rw [List.all_eq_true];intro x hx;exact Ve (p:=fun c=>Ym c.toNat) s x (by rw [←h] at hx;exact hx)
theorem zby:∀x∈wordsL,∃c r,x=c::r∧Zv c.toNat=true∧x.all (fun c=>Ym c.toNat)=true:=by
 intro x hx;have h1:∀x∈wordsL,x≠[]:=by decide
 have h2:∀x∈wordsL,x.all (fun c=>Ym c.toNat)=true:=by decide
 have h3:∀x∈wordsL,Zv (x.headD 0).toNat=true:=by decide
 cases x with
 | nil=>exact absurd rfl (h1 _ hx)
 | cons c r=>exact ⟨c,r,rfl,h3 _ hx,h2 _ hx⟩
theorem zeq:∀x∈signsL,∃c r,x=c::r∧Zv c.toNat=false∧Zn c.toNat=false∧c.toNat≠34∧Zj c.toNat=false:=by
 intro x hx;have h1:∀x∈signsL,x≠[]:=by decide
 have h3:∀x∈signsL,Zv (x.headD 0).toNat=false∧Zn (x.headD 0).toNat=false∧(x.headD 0).toNat≠34∧Zj (x.headD 0).toNat=false:=by decide
 cases x with
 | nil=>exact absurd rfl (h1 _ hx)
 | cons c r=>exact ⟨c,r,rfl,h3 _ hx⟩
theorem xM {x:UInt8} {r:List UInt8} (h:Zv x.toNat=true):Zc (x::r)=yH (x::r):=by
 unfold Zc;simp only;rw [if_pos h]
theorem VY {x:UInt8} {r:List UInt8} (h:Zv x.toNat=false) (h2:Zn x.toNat=true):Zc (x::r)=xA (x::r):=by
 unfold Zc;simp only;rw [if_neg (by rw [h];simp),if_pos h2]
theorem uZ {x:UInt8} {r:List UInt8} (h:Zv x.toNat=false) (h2:Zn x.toNat=false) (h3:x.toNat=34):Zc (x::r)=ZI (x::r):=by
 unfold Zc;simp only;rw [if_neg (by rw [h];simp),if_neg (by rw [h2];simp),if_pos h3]
theorem X7 {x:UInt8} {r:List UInt8} (h:Zv x.toNat=false) (h2:Zn x.toNat=false) (h3:x.toNat≠34):Zc (x::r)=Yw (x::r):=by
 unfold Zc;simp only;rw [if_neg (by rw [h];simp),if_neg (by rw [h2];simp),if_neg h3]
theorem zer:∀x∈signsL,bestS x 25=x:=by decide +kernel
theorem zcO (t:List UInt8):(Zc (45::t)).e=0→(Zc (45::t)).k=4:=by
 have h1:Zc (45::t)=Yw (45::t):=X7 (by decide) (by decide) (by decide)
 rw [h1]
 unfold Yw
 split
 ·intro h;simp at h
 ·intro _;rfl
theorem zfK {x:List UInt8} (hx:x∈signsL):Zc x=⟨4,x,0,x.length,0⟩:=by
 obtain ⟨c,r,rfl,h1,h2,h3,-⟩:=zeq x hx;rw [X7 h1 h2 h3]
 unfold Yw
 rw [zer _ hx,if_neg (by simp)]
theorem zix {x:List UInt8} (hx:yZ x=true):Zc x=⟨5,x,0,x.length,0⟩:=by
 obtain ⟨c,r,rfl,h1,h2⟩:=zby x (by unfold yZ at hx;exact List.contains_iff_mem.1 hx)
 rw [xM h1]
 unfold yH
 rw [QT h2,if_pos hx]
theorem zgT {x:List UInt8} (hx:VB x=true):Zc x=⟨1,x,0,x.length,0⟩:=by
 cases x with
 | nil=>simp [VB] at hx
 | cons c r =>
  unfold VB at hx
  simp only at hx;rw [Bool.and_eq_true,Bool.and_eq_true,Bool.and_eq_true,decide_eq_true_eq] at hx;obtain ⟨⟨⟨h1,h2⟩,h3⟩,h4⟩:=hx;have h5:(c::r).all (fun c=>Ym c.toNat)=true:=by rw [List.all_cons,h2,Bool.and_true];simp [Ym,h1]
  rw [xM h1]
  unfold yH
  rw [QT h5,if_neg (by intro e;rw [e] at h3;cases h3),if_neg (by omega)]
theorem Xn {k n:Int} {s:List UInt8} (h2:k≠2) (h3:k≠3):xU k n s↔(k=0∧s=[]∧n=0)∨(k=1∧VB s=true∧n=0)∨(k=4∧s∈signsL∧n=0)∨(k=5∧yZ s=true∧n=0):=by
 have hw:VN k n s=s:=by unfold VN;rw [if_neg h2,if_neg h3]
 unfold xU
 rw [hw]
 constructor
 ·rintro ⟨he,hk,hs,hn⟩
  cases s with
  | nil=>exact .inl ⟨hk.symm,rfl,hn.symm⟩
  | cons x r =>
   right
   cases h1:Zv x.toNat with
   | true =>
    rw [xM h1] at he hk hs hn
    unfold yH at he hk hs hn
    by_cases hq:yZ (yz (x::r))=true
    ·rw [if_pos hq] at he hk hs hn
     simp only at he hk hs hn;rw [hs] at hq;exact .inr (.inr ⟨hk.symm,hq,hn.symm⟩)
    ·rw [if_neg hq] at he hk hs hn
     by_cases h20:20<(yz (x::r)).length
     ·rw [if_pos h20] at he;simp at he
     ·rw [if_neg h20] at he hk hs hn
      simp only at he hk hs hn;have hall:=zay hs;rw [hs] at hq h20;refine .inl ⟨hk.symm,?_,hn.symm⟩
      unfold VB
      simp only;rw [List.all_cons,Bool.and_eq_true] at hall;rw [h1,hall.2,decide_eq_true (by omega)]
      simp [hq]
   | false =>
    cases h4:Zn x.toNat with
    | true =>
     rw [VY h1 h4] at he hk hs hn
     unfold xA at he hk hs hn
     split at hs
     ·simp at hs
     ·simp at hs
    | false =>
     by_cases h34:x.toNat=34
     ·rw [uZ h1 h4 h34] at he hk
      have:=(zbx _ _ _ _ he)
      unfold ZI at hk
      rw [this] at hk;exact absurd hk.symm h3
     ·rw [X7 h1 h4 h34] at he hk hs hn
      unfold Yw at he hk hs hn
      by_cases hb:bestS (x::r) 25=[]
      ·rw [if_pos hb] at he;simp at he
      ·rw [if_neg hb] at hk hs hn
       simp only at hk hs hn;rcases (un (x::r)).2 with h9 | ⟨h9,-⟩
       ·exact absurd h9 hb
       ·rw [hs] at h9
        exact .inr (.inl ⟨hk.symm,h9,hn.symm⟩)
 ·rintro (⟨rfl,rfl,rfl⟩ | ⟨rfl,h,rfl⟩ | ⟨rfl,h,rfl⟩ | ⟨rfl,h,rfl⟩)
  ·exact ⟨rfl,rfl,rfl,rfl⟩
  ·rw [zgT h];exact ⟨rfl,rfl,rfl,rfl⟩
  ·rw [zfK h];exact ⟨rfl,rfl,rfl,rfl⟩
  ·rw [zix h];exact ⟨rfl,rfl,rfl,rfl⟩
theorem zfL {n:Int} {s:List UInt8} (hn1:n≤9223372036854775807):xU 2 n s↔s=[]∧0≤n:=by
 unfold xU
 have hw:VN 2 n s=Lib.itoa n:=rfl;rw [hw]
 unfold Lib.itoa
 by_cases h:n<0
 ·rw [if_pos h]
  constructor
  ·rintro ⟨he,hk,-,-⟩
   have:=zcO _ he
   rw [this] at hk;cases hk
  ·rintro ⟨-,h9⟩;omega
 ·rw [if_neg h]
  have ht:=zfJ n.toNat (by omega) [] (fun x hx=>by simp at hx)
  rw [List.append_nil] at ht;rw [ht]
  constructor
  ·rintro ⟨-,-,hs,-⟩;exact ⟨hs.symm,by omega⟩
  ·rintro ⟨rfl,h9⟩
   refine ⟨rfl,rfl,rfl,?_⟩;show ((n.toNat:Nat):Int)=n
   omega
theorem zes {n:Int} {s:List UInt8}:xU 3 n s↔vw s=true∧n=0:=by
 unfold xU
 have hw:VN 3 n s=Ya s:=rfl;rw [hw];cases hp:vw s with
 | false =>
  constructor
  ·rintro ⟨he,-⟩;exact absurd he (U2 s hp)
  ·rintro ⟨h,-⟩;cases h
 | true =>
  have ht:=U1 s [] hp;rw [List.append_nil] at ht;rw [ht]
  constructor
  ·rintro ⟨-,-,-,hn⟩;exact ⟨rfl,hn.symm⟩
  ·rintro ⟨-,rfl⟩;exact ⟨rfl,rfl,rfl,rfl⟩
theorem zbz {m:List UInt8} (h:m.all okC=true):(10:UInt8) ∉ Ya m:=by
 have key:∀m:List UInt8,m.all okC=true→(10:UInt8) ∉ m.flatMap ZE:=by
  intro m
  induction m with
  | nil=>intro _ h;simp at h
  | cons c m ih =>
   intro h hm;rw [List.all_cons,Bool.and_eq_true] at h;rw [List.flatMap_cons,List.mem_append] at hm;rcases hm with hm | hm
   ·unfold ZE at hm
    by_cases h1:c.toNat=92
    ·rw [if_pos h1] at hm;revert hm;decide
    ·rw [if_neg h1] at hm
     by_cases h2:c.toNat=34
     ·rw [if_pos h2] at hm;revert hm;decide
     ·rw [if_neg h2] at hm
      by_cases h3:c.toNat=10
      ·rw [if_pos h3] at hm;revert hm;decide
      ·rw [if_neg h3,List.mem_singleton] at hm
       exact h3 (by rw [←hm];rfl)
   ·exact ih h.2 hm
 unfold Ya
 intro hm;rcases List.mem_cons.1 hm with hm | hm
 ·revert hm;decide
 ·rcases List.mem_append.1 hm with hm | hm
  ·exact key m h hm
  ·rw [List.mem_singleton] at hm;revert hm;decide
theorem zbA {p:Nat→Bool} (hp:p 10=false) (l:List UInt8):(10:UInt8) ∉ l.takeWhile (fun c=>p c.toNat):=by
 intro h
 have:=Ve (p:=fun c=>p c.toNat) l 10 h
 have e:p (10:UInt8).toNat=p 10:=rfl;rw [e,hp] at this;cases this
theorem zfM (r:List UInt8) (he:(Zc r).e=0):xU (Zc r).k (Zc r).n (Zc r).s∧(Zc r).sz≤r.length∧(10:UInt8) ∉ r.take (Zc r).sz∧((Zc r).k≠2→VN (Zc r).k (Zc r).n (Zc r).s=r.take (Zc r).sz)∧(Zc r).k≤5:=by
 cases r with
 | nil=>exact ⟨(Xn (by decide) (by decide)).2 (.inl ⟨rfl,rfl,rfl⟩),Nat.le_refl _,by simp,fun _=>rfl,by decide⟩
 | cons x r =>
  have hsz:=(uk (x::r) he).1;cases h1:Zv x.toNat with
  | true =>
   rw [xM h1] at he hsz ⊢;have htk:(x::r).take (yz (x::r)).length=yz (x::r):=XX _ _;have hne:(10:UInt8) ∉ yz (x::r):=zbA (by decide) _
   have hall:(yz (x::r)).all (fun c=>Ym c.toNat)=true:=by
    rw [List.all_eq_true];exact fun c hc=>Ve (p:=fun c=>Ym c.toNat) _ c hc
   unfold yH at he hsz ⊢
   by_cases hq:yZ (yz (x::r))=true
   ·rw [if_pos hq] at he hsz ⊢
    simp only at he hsz ⊢;refine ⟨(Xn (by decide) (by decide)).2 (.inr (.inr (.inr ⟨rfl,hq,rfl⟩))),hsz,by rw [htk];exact hne,fun _=>?_,by decide⟩
    rw [htk];rfl
   ·rw [if_neg hq] at he hsz ⊢
    by_cases h20:20<(yz (x::r)).length
    ·rw [if_pos h20] at he;simp at he
    ·rw [if_neg h20] at he hsz ⊢
     simp only at he hsz ⊢;refine ⟨(Xn (by decide) (by decide)).2 (.inr (.inl ⟨rfl,?_,rfl⟩)),hsz,by rw [htk];exact hne,fun _=>?_,by decide⟩
     ·have hc:yz (x::r)=x::yz r:=by unfold yz;rw [List.takeWhile_cons_of_pos (by simp [Ym,h1])]
      rw [hc] at hall hq h20 ⊢
      unfold VB
      simp only;rw [List.all_cons,Bool.and_eq_true] at hall;rw [h1,hall.2,decide_eq_true (by omega)]
      simp [hq]
     ·rw [htk];rfl
  | false =>
   cases h4:Zn x.toNat with
   | true =>
    rw [VY h1 h4] at he hsz ⊢;have htk:(x::r).take (digL (x::r)).length=digL (x::r):=XX _ _;have hne:(10:UInt8) ∉ digL (x::r):=zbA (by decide) _
    unfold xA at he hsz ⊢
    by_cases hv:valA 0 (digL (x::r))<9223372036854775808
    ·rw [if_pos hv] at he hsz ⊢
     simp only at he hsz ⊢;exact ⟨(zfL (by omega)).2 ⟨rfl,by omega⟩,hsz,by rw [htk];exact hne,fun h=>absurd rfl h,by decide⟩
    ·rw [if_neg hv] at he;simp at he
   | false =>
    by_cases h34:x.toNat=34
    ·have hx:x=34:=UInt8.toNat_inj.1 h34
     have hT:=uZ (r:=r) h1 h4 h34;rw [hT] at he
     unfold ZI at he
     rw [List.drop_succ_cons,List.drop_zero] at he;obtain ⟨m1,rest,-,i2,i3,i4⟩:=VO _ [] 1 r (by simp) he
     rw [List.nil_append] at i4;have hpl:vw m1=true:=by unfold vw;rw [i3,decide_eq_true i4];rfl
     have hr:x::r=Ya m1++rest:=by rw [hx,i2];unfold Ya;simp
     rw [hr,U1 m1 rest hpl];simp only;rw [List.take_left];exact ⟨zes.2 ⟨hpl,rfl⟩,by rw [List.length_append];omega,zbz i3,fun _=>rfl,by decide⟩
    ·rw [X7 h1 h4 h34] at he hsz ⊢
     unfold Yw at he hsz ⊢
     by_cases hb:bestS (x::r) 25=[]
     ·rw [if_pos hb] at he;simp at he
     ·rw [if_neg hb] at hsz ⊢
      simp only at hsz ⊢;rcases (un (x::r)).2 with h9 | ⟨h9,h8⟩
      ·exact absurd h9 hb
      ·have htk:(x::r).take (bestS (x::r) 25).length=bestS (x::r) 25:=by
        unfold Lib.hasPrefix at h8
        exact (List.prefix_iff_eq_take.1 (List.isPrefixOf_iff_prefix.1 h8)).symm
       have hne:∀y∈signsL,(10:UInt8) ∉ y:=by decide
       refine ⟨(Xn (by decide) (by decide)).2 (.inr (.inr (.inl ⟨rfl,h9,rfl⟩))),hsz,by rw [htk];exact hne _ h9,fun _=>?_,by decide⟩
       rw [htk];rfl
def zfN (s:List UInt8) (t:Tk):Prop:=t.at0≤s.length∧t.line=1+Lib.countByte (s.take t.at0) 10∧xU t.k t.n t.s∧(t.k≠2→t.at0+(VN t.k t.n t.s).length≤s.length∧(s.drop t.at0).take (VN t.k t.n t.s).length=VN t.k t.n t.s)∧t.n<9223372036854775808∧t.s.length≤5000
def zaz (s:List UInt8):Nat→List Tk→Prop
 | _,[]=>True
 | a,t::ts=>a≤t.at0∧zfN s t∧zaz s t.at0 ts
theorem zhS (r:List UInt8):(Zc r).n<9223372036854775808:=by
 cases r with
 | nil=>decide
 | cons x r =>
  cases h1:Zv x.toNat with
  | true =>
   rw [xM h1]
   unfold yH
   split
   ·exact (show (0:Nat)<9223372036854775808 by decide)
   ·split <;> exact (show (0:Nat)<9223372036854775808 by decide)
  | false =>
   cases h4:Zn x.toNat with
   | true =>
    rw [VY h1 h4]
    unfold xA
    split
    ·assumption
    ·decide
   | false =>
    by_cases h34:x.toNat=34
    ·rw [uZ h1 h4 h34]
     unfold ZI
     have key:∀(f:Nat) (m:List UInt8) (a:Nat) (r:List UInt8),(Ze f m a r).n=0:=by
      intro f
      induction f with
      | zero=>intro m a r;rfl
      | succ f ih =>
       intro m a r;cases r with
       | nil=>rfl
       | cons y r =>
        unfold Ze
        split
        ·rfl
        ·split
         ·rfl
         ·split
          ·rfl
          ·exact ih _ _ _
     rw [key]
     decide
    ·rw [X7 h1 h4 h34]
     unfold Yw
     split <;> exact (show (0:Nat)<9223372036854775808 by decide)
theorem Us (s:List UInt8) (hs:s.length≤4096):∀(f line a:Nat),a≤s.length→line=1+Lib.countByte (s.take a) 10→(scanS s f line a).2.2=0→zaz s a (scanS s f line a).1
 | 0,_,_,_,_,_=>trivial
 | f+1,line,a,ha,hl,he0=>by
  have hp:=Vf ha;rw [scanS] at he0 ⊢
  by_cases he:(zV s a).e≠0
  ·rw [if_pos he] at he0;exact absurd he0 he
  ·rw [if_neg he] at he0 ⊢
   have he1:(Zc (s.drop (zM s a))).e=0:=by
    show (zV s a).e=0
    omega
   obtain ⟨r1,r2,r3,r4,-⟩:=zfM (s.drop (zM s a)) he1
   have hln:yr s line a=1+Lib.countByte (s.take (zM s a)) 10:=by
    unfold yr zM
    rw [hl,List.take_add,Xy];omega
   have hpt:zfN s (tkT s line a):=by
    refine ⟨hp,hln,r1,fun hk=>?_,zhS _,?_⟩
    ·have h9:=r4 hk
     have e1:VN (tkT s line a).k (tkT s line a).n (tkT s line a).s=(s.drop (zM s a)).take (Zc (s.drop (zM s a))).sz:=h9;rw [e1];have e2:((s.drop (zM s a)).take (Zc (s.drop (zM s a))).sz).length=(Zc (s.drop (zM s a))).sz:=by rw [List.length_take];omega
     rw [e2];rw [List.length_drop] at r2;refine ⟨?_,rfl⟩;show zM s a+(Zc (s.drop (zM s a))).sz≤s.length
     omega
    ·have:=zfi (s.drop (zM s a))
     rw [List.length_drop] at this;show (Zc (s.drop (zM s a))).s.length≤5000
     omega
   have hat:a≤(tkT s line a).at0:=by show a≤zM s a;unfold zM;omega
   by_cases hk:(zV s a).k=0
   ·rw [if_pos hk] at he0 ⊢
    exact ⟨hat,hpt,trivial⟩
   ·rw [if_neg hk] at he0 ⊢
    have hm:=xB ha he1 hk
    have hln2:yr s line a=1+Lib.countByte (s.take (zM s a+(zV s a).sz)) 10:=by
     rw [hln,List.take_add,Xy]
     have:Lib.countByte ((s.drop (zM s a)).take (zV s a).sz) 10=0:=by
      unfold Lib.countByte
      exact List.count_eq_zero.2 r3
     omega
    have ih:=Us s hs f (yr s line a) (zM s a+(zV s a).sz) hm.2 hln2;generalize scanS s f (yr s line a) (zM s a+(zV s a).sz)=A at he0 ih ⊢
    by_cases hA:A.2.2≠0
    ·rw [if_pos hA] at he0;exact absurd he0 hA
    ·rw [if_neg hA] at he0 ⊢
     have i1:=ih (by omega)
     refine ⟨hat,hpt,?_⟩;cases hA1:A.1 with
     | nil=>trivial
     | cons t ts =>
      rw [hA1] at i1;refine ⟨?_,i1.2⟩;have h9:zM s a+(zV s a).sz≤t.at0:=i1.1;show zM s a≤t.at0
      omega
theorem qj (s:List UInt8):∀(f line a:Nat),a≤s.length→s.length<a+f→(scanS s f line a).2.2=0→∃ts line',(scanS s f line a).1=ts++[⟨0,[],0,line',s.length⟩]
 | 0,_,_,h1,h2,_=>by omega
 | f+1,line,a,ha,hf,he0=>by
  have hp:=Vf ha;rw [scanS] at he0 ⊢
  by_cases he:(zV s a).e≠0
  ·rw [if_pos he] at he0;exact absurd he0 he
  ·rw [if_neg he] at he0 ⊢
   have he1:(zV s a).e=0:=by omega
   by_cases hk:(zV s a).k=0
   ·rw [if_pos hk] at he0 ⊢
    have h9:=(uk (s.drop (zM s a)) he1).2.2 hk;have hl:=congrArg List.length h9;rw [List.length_drop,List.length_nil] at hl;have hpe:zM s a=s.length:=by omega
    have hn:zV s a=⟨0,[],0,0,0⟩:=by
     show Zc (s.drop (zM s a))=_
     rw [h9];rfl
    refine ⟨[],yr s line a,?_⟩
    unfold tkT
    rw [hn,hpe]
    rfl
   ·rw [if_neg hk] at he0 ⊢
    have hm:=xB ha he1 hk;have ih:=qj s f (yr s line a) (zM s a+(zV s a).sz) hm.2 (by omega)
    generalize scanS s f (yr s line a) (zM s a+(zV s a).sz)=A at he0 ih ⊢
    by_cases hA:A.2.2≠0
    ·rw [if_pos hA] at he0;exact absurd he0 hA
    ·rw [if_neg hA] at he0 ⊢
     obtain ⟨ts,line',i1⟩:=ih (by omega)
     exact ⟨tkT s line a::ts,line',by rw [i1];rfl⟩
theorem zcP (s:List UInt8) (f line a:Nat) (h:(scanS s f line a).2.2≠0):(scanS s f line a).1=[]:=by
 cases f with
 | zero=>rfl
 | succ f =>
  rw [scanS] at h ⊢
  by_cases he:(zV s a).e≠0
  ·rw [if_pos he]
  ·rw [if_neg he] at h ⊢
   by_cases hk:(zV s a).k=0
   ·rw [if_pos hk] at h;exact absurd rfl h
   ·rw [if_neg hk] at h ⊢
    generalize scanS s f (yr s line a) (zM s a+(zV s a).sz)=A at h ⊢
    by_cases hA:A.2.2≠0
    ·rw [if_pos hA]
    ·rw [if_neg hA] at h;exact absurd rfl h
theorem XD (s:List UInt8):((zC s).2.2≠0→(zC s).1=[])∧((zC s).2.2=0→s.length≤4096∧zaz s 0 (zC s).1∧∃ts line',(zC s).1=ts++[⟨0,[],0,line',s.length⟩]):=by
 unfold zC
 by_cases h:4096<s.length
 ·rw [if_pos h]
  exact ⟨fun _=>rfl,fun h=>by simp at h⟩
 ·rw [if_neg h]
  refine ⟨zcP s _ 1 0,fun he=>⟨by omega,Us s (by omega) _ 1 0 (Nat.zero_le _) (by simp [Lib.countByte]) he,qj s _ 1 0 (Nat.zero_le _) (by omega) he⟩⟩
def rgK (k:Int) (s:List UInt8) (n:Int) (m:Nat):Bool :=
 if k=1 then decide (0≤n)&&s==[]&&m==0
 else if k=2 then (n==0||n==1)&&s==[]&&m==0
 else if k=3 then vw s&&n==0&&m==0
 else if k=4 then VB s&&n==0&&m==0
 else if k=5 then VB s&&n==0
 else if k=11 then VB s&&n==0
 else if k=6 then (s==[45]||s==[33])&&n==0&&m==1
 else if k=7 then decide (0<levelOf s)&&n==0&&m==2
 else if k=8 then s==[]&&n==0&&m==2
 else if k=9 then VB s&&n==0&&m==1
 else if k=10 then s==[]&&n==0&&decide (0<m)
 else false
mutual
def rgE:Ez→Bool
 | .mk k s n kids _=>rgL kids&&rgK k s n kids.length
def rgL:List Ez→Bool
 | []=>true
 | x::xs=>rgE x&&rgL xs
end
mutual
def dpE:Ez→Nat
 | .mk _ _ _ kids _=>Vh kids+1
def Vh:List Ez→Nat
 | []=>0
 | x::xs=>max (dpE x) (Vh xs)
end
def zdI:List (List UInt8)→List UInt8
 | []=>[]
 | [t]=>t
 | t::u::r=>t++[44,32]++zdI (u::r)
def ut (x:Ez) (least:Nat) (t:List UInt8):List UInt8:=if lvE x<least then [40]++t++[41] else t
def txK (k:Int) (s:List UInt8) (n:Int) (kids:List Ez) (ts:List (List UInt8)):List UInt8 :=
 if k=1 then Lib.decDigits n.toNat
 else if k=2 then (if n=1 then [116,114,117,101] else [102,97,108,115,101])
 else if k=3 then Ya s
 else if k=4 then s
 else if k=5 then s++[40]++zdI ts++[41]
 else if k=6 then (match kids,ts with
  | a::_,t::_=>s++ut a 7 t
  | _,_=>[])
 else if k=7 then (match kids,ts with
  | a::b::_,t::u::_=>ut a (levelOf s) t++[32]++s++[32]++ut b (levelOf s+1) u
  | _,_=>[])
 else if k=8 then (match kids,ts with
  | a::_,t::u::_=>ut a 8 t++[91]++u++[93]
  | _,_=>[])
 else if k=9 then (match kids,ts with
  | a::_,t::_=>ut a 8 t++[46]++s
  | _,_=>[])
 else if k=10 then [91]++zdI ts++[93]
 else [110,101,119,32]++s++[40]++zdI ts++[41]
mutual
def txE:Ez→List UInt8
 | .mk k s n kids _=>txK k s n kids (txL kids)
def txL:List Ez→List (List UInt8)
 | []=>[]
 | x::xs=>txE x::txL xs
end
theorem uu {l:List Ez} {d:Nat}:Vh l≤d↔∀y∈l,dpE y≤d:=by
 induction l with
 | nil=>simp [Vh]
 | cons x xs ih=>rw [Vh,List.forall_mem_cons,←ih];omega
mutual
def nbE:Ez→Bool
 | .mk _ _ n kids _=>decide (n≤9223372036854775807)&&nbL kids
def nbL:List Ez→Bool
 | []=>true
 | x::xs=>nbE x&&nbL xs
end
theorem zbB (l:List Ez):∀i y,l[i]?=some y→Vh (l.take (i+1))=max (Vh (l.take i)) (dpE y):=by
 induction l with
 | nil=>intro i y h;simp at h
 | cons x xs ih =>
  intro i y h;cases i with
  | zero =>
   simp only [List.getElem?_cons_zero,Option.some.injEq] at h;subst h
   simp [Vh]
  | succ i =>
   have:=ih i y (by simpa using h)
   rw [List.take_succ_cons,List.take_succ_cons,Vh,Vh,this,Nat.max_assoc]
theorem qk {k:Int} {s:List UInt8} {n:Int} {kids:List Ez} {line:Int} {N i:Nat} {y:Ez} (h:dpE (.mk k s n kids line)≤N+1) (hy:kids[i]?=some y):dpE y≤N:=by
 rw [dpE] at h;exact (uu (d:=N)).1 (by omega) y (List.mem_of_getElem? hy)
theorem Ut (l:List Ez) (i:Nat):Vh (l.take i)≤Vh l:=by
 refine uu.2 fun y hy=>uu.1 (Nat.le_refl _) y (List.mem_of_mem_take hy)
theorem qm:∀(N:Nat) (x:Ez) (v:Value) (w:World),N≤4611686018427387904→dpE x≤N→ZJ w.heap.size w x v →
  Calls Tryz.prog 108 #[v] w fun e w'=>e=.returned (.int .i64 (dpE x:Int))∧Below w.heap.size w w'
 | 0,.mk k s n kids line,v,w,_,hd,_=>by rw [dpE] at hd;omega
 | N+1,.mk k s n kids line,v,w,hN,hd,hx=>by
  obtain ⟨base,cap,rfl,hc,hmx,hs,hn0,hn1,hkid⟩:=hx.kid;obtain ⟨m,hm⟩:∃m,m=kids.length:=⟨_,rfl⟩;rw [←hm] at hc ⊢;have hlen:m≤9223372036854775807:=by unfold maxLen at hmx;omega
  obtain ⟨R,hR⟩:∃R,R=dpE (.mk k s n kids line):=⟨_,rfl⟩;rw [←hR];have HR:Hid (R=Vh kids+1):=hR;have hRN:Vh kids≤N:=by rw [dpE] at hd;omega
  obtain ⟨w1,hw1⟩:∃w1,w1=w.alloc (Y3 k s n base m cap line):=⟨_,rfl⟩;have hb1:Below w.heap.size w w1:=by rw [hw1];exact (Below.refl _ w).alloc (Nat.le_refl _) _
  have p1:w1.heap[w.heap.size]?=some (Y3 k s n base m cap line):=by rw [hw1];exact World.alloc_heap_new w _
  have hsz1:w1.heap.size=w.heap.size+1:=by rw [hw1];simp
  have HK:Hid (∀i y,kids[i]?=some y→∀W,Below w1.heap.size w1 W→∃b o a1 a2 a3 a4 a5 a6 a7,base=some ⟨b,o,none⟩∧W.cell? ⟨b,o+i*5,none⟩=some (.int .i64 a1)∧W.cell? ⟨b,o+i*5+1,none⟩=some (.string (za a2))∧W.cell? ⟨b,o+i*5+2,none⟩=some (.int .i64 a3)∧W.cell? ⟨b,o+i*5+3,none⟩=some (.slice a4 a5 a6)∧W.cell? ⟨b,o+i*5+4,none⟩=some (.int .i64 a7) ∧
    Calls Tryz.prog 108 #[Ye a1 a2 a3 a4 a5 a6 a7] W fun e w'=>e=.returned (.int .i64 (dpE y:Int))∧Below W.heap.size W w'):=fun i y hy W hW=>by
   obtain ⟨b,o,a1,a2,a3,a4,a5,a6,a7,e,hb,hlt,hxy,m0,m1,m2,m3,m4⟩:=hkid i y hy;have hbW:Below w.heap.size w W:=zi hb1 hW;have hz:w.heap.size≤W.heap.size:=hbW.size
   exact ⟨b,o,a1,a2,a3,a4,a5,a6,a7,e,(hbW.cell (p:=⟨b,o+i*5,none⟩) hlt).trans m0,(hbW.cell (p:=⟨b,o+i*5+1,none⟩) hlt).trans m1,(hbW.cell (p:=⟨b,o+i*5+2,none⟩) hlt).trans m2,(hbW.cell (p:=⟨b,o+i*5+3,none⟩) hlt).trans m3,(hbW.cell (p:=⟨b,o+i*5+4,none⟩) hlt).trans m4,
    qm N y _ W (by omega) (qk hd hy) ((hxy.kept hbW).wide hz)⟩
  have HP1:Hid (w1.heap[w.heap.size]?=some (Y3 k s n base m cap line)):=p1;have HB1:Hid (Below w.heap.size w w1):=hb1;have HM:Hid (m=kids.length):=hm;have HN:Hid (Vh kids≤N):=hRN;obtain ⟨c0,c1,c2,c3,c4⟩:=zK p1;have hw1':=hw1.symm;clear hx hkid hR hb1 p1 hw1 hm hd hc hmx hRN
  go_enter Tryz.func108,Tryz.ntmps108
  go_wp2_with fail
  go_loopw [3,4] (fun vn vi wr=>∃(i D:Nat),i≤m∧vi=.int .i64 (i:Int)∧vn=.int .i64 (D:Int)∧D=Vh (kids.take i)∧Below w1.heap.size w1 wr) (fun _ vi _=>m-(intOf vi).toNat)
  case atStart=>exact ⟨0,0,Nat.zero_le _,rfl,rfl,by simp [Vh],Below.refl _ _⟩
  case round =>
   obtain ⟨i,D,hi,rfl,rfl,hD,hbr⟩:=hrel;clear c0 c1 c2 c3 c4;obtain ⟨c0,c1,c2,c3,c4⟩:=zK ((hbr.block w.heap.size (by omega)).trans HP1.out)
   have HBR:Hid (Below w1.heap.size w1 wr):=hbr;have hDN:D≤N:=by rw [hD];exact Nat.le_trans (Ut kids i) HN.out
   have HD:Hid (D=Vh (kids.take i)):=hD;clear hbr hD
   by_cases hlt:i<m
   ·have hlt':(i:Int)<(m:Int):=by omega
    obtain ⟨y,hy⟩:∃y,kids[i]?=some y:=⟨kids[i]'(by rw [←HM.out];exact hlt),List.getElem?_eq_getElem (by rw [←HM.out];exact hlt)⟩
    obtain ⟨b,o,a1,a2,a3,a4,a5,a6,a7,rfl,m0,m1,m2,m3,m4,ck⟩:=HK.out i y hy wr HBR.out;have HNX:Hid (max D (dpE y)=Vh (kids.take (i+1))):=show _=_ by rw [zbB kids i y hy,HD.out]
    have hyN:dpE y≤N:=by
     have:=uu.1 HN.out y (List.mem_of_getElem? hy)
     exact this
    clear hy HK HD;generalize dpE y=Y at *;go_wp2_with fail
    refine ck.mono ?_;clear ck m0 m1 m2 m3 m4 c0 c1 c2 c3 c4;rintro e w2 ⟨rfl,hb2⟩;have HB2:Hid (Below w1.heap.size w1 w2):=zi HBR.out hb2;clear hb2 HBR;go_wp2
    exact ⟨⟨i+1,max D Y,by omega,by go_num,by go_num,HNX.out,HB2.out⟩,by simp [intOf];omega⟩
   ·obtain rfl:i=m:=by omega
    have hlt':¬ (i:Int)<(i:Int):=by omega
    have HV:Hid ((R:Int)=(D:Int)+1):=show _=_ by
     rw [HR.out,HD.out,HM.out,List.take_length];omega
    have HBW:Hid (Below w.heap.size w wr):=zi HB1.out HBR.out;clear HR HK HBR HB1 HM HP1 HD HN;go_wp2
    exact bodyPost_ret (v:=.int .i64 ((D:Int)+1)) (by simp [results,Tryz.results108,go_sem]) rfl ⟨by rw [HV.out],HBW.out⟩
mutual
def smE:Ez→Ez→Prop
 | .mk k s n kids _,.mk k' s' n' kids' _=>k=k'∧s=s'∧n=n'∧smL kids kids'
def smL:List Ez→List Ez→Prop
 | [],[]=>True
 | x::xs,y::ys=>smE x y∧smL xs ys
 | [],_::_=>False
 | _::_,[]=>False
end
theorem zaA:∀{l l':List Ez},smL l l'→l.length=l'.length∧∀(i:Nat) (x y:Ez),l[i]?=some x→l'[i]?=some y→smE x y
 | [],[],_=>⟨rfl,fun i x y hx=>by simp at hx⟩
 | x::xs,y::ys,h=>by
  rw [smL] at h;obtain ⟨h1,h2⟩:=zaA h.2;refine ⟨by simp [h1],fun i a b ha hb=>?_⟩
  cases i with
  | zero =>
   simp only [List.getElem?_cons_zero,Option.some.injEq] at ha hb;subst ha hb;exact h.1
  | succ i=>exact h2 i a b (by simpa using ha) (by simpa using hb)
 | [],_::_,h=>by rw [smL] at h;exact h.elim
 | _::_,[],h=>by rw [smL] at h;exact h.elim
mutual
theorem zfO:∀x:Ez,smE x x
 | .mk k s n kids line=>by rw [smE];exact ⟨rfl,rfl,rfl,qo kids⟩
theorem qo:∀l:List Ez,smL l l
 | []=>by rw [smL];trivial
 | x::xs=>by rw [smL];exact ⟨zfO x,qo xs⟩
end
def YG (w:World) (l:List Ez) (base:Option Addr):Prop:=∀(i:Nat) (x:Ez),l[i]?=some x→∃b o a1 a2 a3 a4 a5 a6 a7,base=some ⟨b,o,none⟩∧b<w.heap.size∧ZJ w.heap.size w x (Ye a1 a2 a3 a4 a5 a6 a7) ∧
 w.cell? ⟨b,o+i*5,none⟩=some (.int .i64 a1)∧w.cell? ⟨b,o+i*5+1,none⟩=some (.string (za a2))∧w.cell? ⟨b,o+i*5+2,none⟩=some (.int .i64 a3)∧w.cell? ⟨b,o+i*5+3,none⟩=some (.slice a4 a5 a6)∧w.cell? ⟨b,o+i*5+4,none⟩=some (.int .i64 a7)
theorem YG.below {w W:World} {l:List Ez} {base:Option Addr} (h:YG w l base) (hb:Below w.heap.size w W):YG W l base:=by
 intro i x hx;obtain ⟨b,o,a1,a2,a3,a4,a5,a6,a7,e,hlt,hxy,m0,m1,m2,m3,m4⟩:=h i x hx;exact ⟨b,o,a1,a2,a3,a4,a5,a6,a7,e,Nat.lt_of_lt_of_le hlt hb.size,(hxy.kept hb).wide hb.size,(hb.cell (p:=⟨b,o+i*5,none⟩) hlt).trans m0,(hb.cell (p:=⟨b,o+i*5+1,none⟩) hlt).trans m1,(hb.cell (p:=⟨b,o+i*5+2,none⟩) hlt).trans m2,(hb.cell (p:=⟨b,o+i*5+3,none⟩) hlt).trans m3,(hb.cell (p:=⟨b,o+i*5+4,none⟩) hlt).trans m4⟩
theorem uv (l l':List Ez) (base base':Option Addr) (m cap cap':Nat) (w:World) (hm:m=l.length) (hm':m=l'.length) (hmx:m≤9223372036854775807) (hk:YG w l base) (hk':YG w l' base')
  (hs:∀(i:Nat) (x y:Ez),l[i]?=some x→l'[i]?=some y→∀W v u,ZJ W.heap.size W x v→ZJ W.heap.size W y u→Calls Tryz.prog 20 #[v,u] W fun e w'=>e=.returned (.bool true)∧Below W.heap.size W w') :
  Calls Tryz.prog 46 #[.slice base m cap,.slice base' m cap'] w fun e w'=>e=.returned (.bool true)∧Below w.heap.size w w':=by
 have HK:Hid (YG w l base∧YG w l' base'):=⟨hk,hk'⟩;have HS:Hid (∀(i:Nat) (x y:Ez),l[i]?=some x→l'[i]?=some y→∀W v u,ZJ W.heap.size W x v→ZJ W.heap.size W y u→Calls Tryz.prog 20 #[v,u] W fun e w'=>e=.returned (.bool true)∧Below W.heap.size W w'):=hs
 have HM:Hid (m=l.length∧m=l'.length):=⟨hm,hm'⟩;have HB0:Hid (Below w.heap.size w w):=Below.refl _ _;clear hk hk' hs hm hm'
 go_enter Tryz.func46,Tryz.ntmps46
 go_wp2
 go_loopw [5] (fun vi wr=>∃i:Nat,i≤m∧vi=.int .i64 (i:Int)∧Below w.heap.size w wr) (fun vi _=>m-(intOf vi).toNat)
 case atStart=>exact ⟨0,Nat.zero_le _,rfl,HB0.out⟩
 case round =>
  obtain ⟨i,hi,rfl,hbr⟩:=hrel;have HB:Hid (Below w.heap.size w wr):=hbr;clear hbr
  by_cases hlt:i<m
  ·have hi2:(i:Int)<m:=by omega
   obtain ⟨x,hx⟩:∃x,l[i]?=some x:=⟨l[i]'(by rw [←HM.out.1];exact hlt),List.getElem?_eq_getElem (by rw [←HM.out.1];exact hlt)⟩
   obtain ⟨y,hy⟩:∃y,l'[i]?=some y:=⟨l'[i]'(by rw [←HM.out.2];exact hlt),List.getElem?_eq_getElem (by rw [←HM.out.2];exact hlt)⟩
   have HKr:Hid (YG wr l base∧YG wr l' base'):=⟨HK.out.1.below HB.out,HK.out.2.below HB.out⟩;obtain ⟨b,o,a1,a2,a3,a4,a5,a6,a7,rfl,hb,hxe,m0,m1,m2,m3,m4⟩:=HKr.out.1 i x hx;obtain ⟨b',o',c1,c2,c3,c4,c5,c6,c7,rfl,hb',hye,n0,n1,n2,n3,n4⟩:=HKr.out.2 i y hy
   have HC:Hid (∀wx,Below wr.heap.size wr wx→Calls Tryz.prog 20 #[Ye a1 a2 a3 a4 a5 a6 a7,Ye c1 c2 c3 c4 c5 c6 c7] wx fun e w''=>e=.returned (.bool true)∧Below wr.heap.size wr w''):=fun wx hwx =>
    (HS.out i x y hx hy wx _ _ ((hxe.kept hwx).wide hwx.size) ((hye.kept hwx).wide hwx.size)).mono fun e w'' h=>⟨h.1,hwx.trans (h.2.mono hwx.size)⟩
   have u0:=Zk (n:=wr.heap.size) m0 hb;have u1:=Zk (n:=wr.heap.size) m1 hb;have u2:=Zk (n:=wr.heap.size) m2 hb;have u3:=Zk (n:=wr.heap.size) m3 hb;have u4:=Zk (n:=wr.heap.size) m4 hb;have v0:=Zk (n:=wr.heap.size) n0 hb';have v1:=Zk (n:=wr.heap.size) n1 hb';have v2:=Zk (n:=wr.heap.size) n2 hb';have v3:=Zk (n:=wr.heap.size) n3 hb';have v4:=Zk (n:=wr.heap.size) n4 hb';clear m0 m1 m2 m3 m4 n0 n1 n2 n3 n4 hxe hye hx hy HKr hb hb';have hsw:w.heap.size≤wr.heap.size:=HB.out.size;go_wp2_with fail
   refine xG (n:=wr.heap.size) (w0:=wr) (Below.refl _ _) (by kernel_rfl) (by kernel_rfl) ?_
   iterate 8 (go_big_quiet_step (fail))
   go_big_quiet_step (exact xz HC.out _)
   iterate 1 (go_big_quiet_step (fail))
   refine wpQuiet_nil ?_;rintro _ ⟨c,rfl⟩;have HBc:Hid (Below w.heap.size w c.1):=HB.out.trans (c.2.mono hsw);clear u0 u1 u2 u3 u4 v0 v1 v2 v3 v4;go_wp2
   exact ⟨⟨i+1,by omega,by go_num,HBc.out⟩,by simp [intOf];omega⟩
  ·obtain rfl:i=m:=by omega
   have hi2:¬ (i:Int)<i:=by omega
   go_wp2
   go_ret
   exact ⟨rfl,HB.out⟩
theorem QU:∀(N:Nat) (x y:Ez) (v u:Value) (w:World),dpE x≤N→smE x y→ZJ w.heap.size w x v→ZJ w.heap.size w y u →
  Calls Tryz.prog 20 #[v,u] w fun e w'=>e=.returned (.bool true)∧Below w.heap.size w w'
 | 0,.mk k s n kids line,y,v,u,w,hd,_,_,_=>by rw [dpE] at hd;omega
 | N+1,.mk k s n kids line,.mk k' s' n' kids' line',v,u,w,hd,hsm,hx,hy=>by
  rw [smE] at hsm;obtain ⟨rfl,rfl,rfl,hsl⟩:=hsm;obtain ⟨hlen,hel⟩:=zaA hsl;obtain ⟨base,cap,rfl,hc,hmx,hsl1,hn0,hn1,hkid⟩:=hx.kid;obtain ⟨base',cap',rfl,hc',hmx',-,-,-,hkid'⟩:=hy.kid;obtain ⟨m,hm⟩:∃m,m=kids.length:=⟨_,rfl⟩;rw [←hlen,←hm];rw [←hm] at hc;have hmb:m≤9223372036854775807:=by unfold maxLen at hmx;omega
  have hkA:YG w kids base:=fun i x h=>by
   obtain ⟨b,o,a1,a2,a3,a4,a5,a6,a7,e,hb,hlt,hxy,h⟩:=hkid i x h;exact ⟨b,o,a1,a2,a3,a4,a5,a6,a7,e,hlt,hxy,h⟩
  have hkB:YG w kids' base':=fun i x h=>by
   obtain ⟨b,o,a1,a2,a3,a4,a5,a6,a7,e,hb,hlt,hxy,h⟩:=hkid' i x h;exact ⟨b,o,a1,a2,a3,a4,a5,a6,a7,e,hlt,hxy,h⟩
  have HC:Hid (∀W,Below w.heap.size w W→Calls Tryz.prog 46 #[.slice base m cap,.slice base' m cap'] W fun e w'=>e=.returned (.bool true)∧Below W.heap.size W w'):=fun W hW =>
   uv kids kids' base base' m cap cap' W hm (hm.trans hlen) hmb (hkA.below hW) (hkB.below hW) fun i x y hx hy W' v u h1 h2=>QU N x y v u W' (qk hd hx) (hel i x y hx hy) h1 h2
  have HB:Hid (Below w.heap.size w ((w.alloc (Y3 k s n base m cap line)).alloc (Y3 k s n base' m cap' line'))):=((Below.refl _ w).alloc (Nat.le_refl _) _).alloc (by simp) _
  have cc:=HC.out _ HB.out;clear hx hy hkid hkid' hkA hkB hc hc' hmx hmx' hsl1 hn0 hn1 hel hlen hsl hm hd HC
  go_enter Tryz.func20,Tryz.ntmps20
  go_wp2_with fail
  refine cc.mono ?_;clear cc;rintro e w2 ⟨rfl,hb2⟩;have HB2:Hid (Below w.heap.size w w2):=HB.out.trans (hb2.mono HB.out.size);clear hb2;go_wp2
  exact bodyPost_ret (v:=.bool true) (by simp [results,Tryz.results20,go_sem]) rfl ⟨rfl,HB2.out⟩
end Go.Proofs.YtpejpbbdgblbeaaGreatDoor
