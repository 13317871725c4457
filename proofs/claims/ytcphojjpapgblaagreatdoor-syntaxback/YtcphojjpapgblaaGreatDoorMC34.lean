import Derived.Test.YtcphojjpapgblaaGreatDoorMC33
import Derived.Test.YtcphojjpapgblaaGreatDoorMC11
import Derived.Deep.RegionHeld3
import Derived.Deep.RegionWith
import Derived.Test.YtcphojjpapgblaaGreatDoorMC35
import Derived.Test.YtcphojjpapgblaaGreatDoorMC6
namespace Go.Proofs.YtcphojjpapgblaaGreatDoor
open Go.RowKit Go.Shelf
theorem Uj (u:Nat):∀c∈Lib.decDigits u,Zx c.toNat=true:=by
 induction u using Nat.strongRecOn with
 | _ u ih =>
  have y:∀d:Nat,d<10→Zx (UInt8.ofNat (48+d)).toNat=true:=by decide
  intro c o;rw [Lib.decDigits] at o
  by_cases h:u<10
  ·rw [dif_pos h,List.mem_singleton] at o
   rw [o];exact y u h
  ·rw [dif_neg h,List.mem_append,List.mem_singleton] at o
   rcases o with o | o
   ·exact ih (u / 10) (by omega) c o
   ·rw [o];exact y (u % 10) (by omega)
theorem zcB (u:Nat):Lib.decDigits u≠[]:=by
 intro h
 have:=congrArg List.length h
 rw [Lib.decDigits_length,List.length_nil] at this
 have:=Lib.nDigits_pos u
 omega
theorem zg4 (u:Nat):valA 0 (Lib.decDigits u)=u:=by
 induction u using Nat.strongRecOn with
 | _ u ih =>
  have o:∀d:Nat,d<10→(UInt8.ofNat (48+d)).toNat-48=d:=by decide
  rw [Lib.decDigits]
  by_cases h:u<10
  ·rw [dif_pos h]
   show 0*10+((UInt8.ofNat (48+u)).toNat-48)=u
   rw [o u h];omega
  ·rw [dif_neg h,Qf,ih (u / 10) (by omega),o (u % 10) (by omega)]
   omega
theorem zfA (u:Nat) (t:List UInt8) (ht:∀x∈t.head?,Zx x.toNat=false):digL (Lib.decDigits u++t)=Lib.decDigits u:=by
 unfold digL
 rw [xX t _ (by rw [Yj _ (Uj u)])]
 cases t with
 | nil=>simp
 | cons x t=>rw [List.takeWhile_cons_of_neg (by rw [ht x rfl];simp),List.append_nil]
theorem zbs (u:Nat) (hu:u<9223372036854775808) (t:List UInt8) (ht:∀x∈t.head?,Zx x.toNat=false):Zb (Lib.decDigits u++t)=⟨2,[],u,(Lib.decDigits u).length,0⟩:=by
 obtain ⟨x,r,o⟩:∃x r,Lib.decDigits u=x::r:=by
  cases h:Lib.decDigits u with
  | nil=>exact absurd h (zcB u)
  | cons x r=>exact ⟨x,r,rfl⟩
 have y:Zx x.toNat=true:=Uj u x (by rw [o];exact List.mem_cons_self ..)
 have z:Zw x.toNat=false:=by
  unfold Zx at y
  rw [Bool.and_eq_true,decide_eq_true_eq,decide_eq_true_eq] at y
  unfold Zw
  rw [Bool.or_eq_false_iff,Bool.or_eq_false_iff];refine ⟨⟨by rw [beq_eq_false_iff_ne];omega,?_⟩,?_⟩ <;> (rw [Bool.and_eq_false_iff,decide_eq_false_iff_not,decide_eq_false_iff_not];omega)
 have hd:=zfA u t ht
 have A:Zb (Lib.decDigits u++t)=XT (Lib.decDigits u++t):=by
  rw [o,List.cons_append]
  unfold Zb
  simp only;rw [if_neg (by rw [z];simp),if_pos y]
 rw [A]
 unfold XT
 rw [hd,zg4,if_pos hu]
theorem zbt:∀(f:Nat) (meant:List UInt8) (at0:Nat) (r:List UInt8),(Zo f meant at0 r).e=0→(Zo f meant at0 r).k=3
 | 0,_,_,_,h=>by simp [Zo] at h
 | _+1,_,_,[],h=>by simp [Zo] at h
 | f+1,meant,at0,x::r,h=>by
  unfold Zo at h ⊢
  by_cases h1:x.toNat=34
  ·rw [if_pos h1]
  ·rw [if_neg h1] at h ⊢
   by_cases h2:(v6 (x::r)).2=0
   ·rw [if_pos h2] at h;simp at h
   ·rw [if_neg h2] at h ⊢
    by_cases h3:meant.length=255
    ·rw [if_pos h3] at h;simp at h
    ·rw [if_neg h3] at h ⊢
     exact zbt f _ _ _ h
def xF (s:List UInt8):Bool:=match s with | []=>false | x::r=>Zw x.toNat&&r.all (fun c=>ym c.toNat)&&!yh s&&decide (s.length≤20)
theorem Qr {s:List UInt8} (h:s.all (fun c=>ym c.toNat)=true):Z4 s=s:=Yj s (fun x hx=>List.all_eq_true.1 h x hx)
theorem zac {s:List UInt8} (h:Z4 s=s):s.all (fun c=>ym c.toNat)=true:=by
 rw [List.all_eq_true];intro x o;exact VD (p:=fun c=>ym c.toNat) s x (by rw [←h] at o;exact o)
theorem uR:∀x∈wordsL,∃c r,x=c::r∧Zw c.toNat=true∧x.all (fun c=>ym c.toNat)=true:=by
 intro x h;have y:∀x∈wordsL,x≠[]:=by decide
 have o:∀x∈wordsL,x.all (fun c=>ym c.toNat)=true:=by decide
 have z:∀x∈wordsL,Zw (x.headD 0).toNat=true:=by decide
 cases x with
 | nil=>exact absurd rfl (y _ h)
 | cons c r=>exact ⟨c,r,rfl,z _ h,o _ h⟩
theorem Qs:∀x∈signsL,∃c r,x=c::r∧Zw c.toNat=false∧Zx c.toNat=false∧c.toNat≠34∧zV c.toNat=false:=by
 intro x h;have y:∀x∈signsL,x≠[]:=by decide
 have o:∀x∈signsL,Zw (x.headD 0).toNat=false∧Zx (x.headD 0).toNat=false∧(x.headD 0).toNat≠34∧zV (x.headD 0).toNat=false:=by decide
 cases x with
 | nil=>exact absurd rfl (y _ h)
 | cons c r=>exact ⟨c,r,rfl,o _ h⟩
theorem yZ {x:UInt8} {r:List UInt8} (h:Zw x.toNat=true):Zb (x::r)=Yf (x::r):=by
 unfold Zb;simp only;rw [if_pos h]
theorem Vq {x:UInt8} {r:List UInt8} (h:Zw x.toNat=false) (h2:Zx x.toNat=true):Zb (x::r)=XT (x::r):=by
 unfold Zb;simp only;rw [if_neg (by rw [h];simp),if_pos h2]
theorem uj {x:UInt8} {r:List UInt8} (h:Zw x.toNat=false) (h2:Zx x.toNat=false) (h3:x.toNat=34):Zb (x::r)=yT (x::r):=by
 unfold Zb;simp only;rw [if_neg (by rw [h];simp),if_neg (by rw [h2];simp),if_pos h3]
theorem xj {x:UInt8} {r:List UInt8} (h:Zw x.toNat=false) (h2:Zx x.toNat=false) (h3:x.toNat≠34):Zb (x::r)=Yu (x::r):=by
 unfold Zb;simp only;rw [if_neg (by rw [h];simp),if_neg (by rw [h2];simp),if_neg h3]
theorem Qt:∀x∈signsL,bestS x 25=x:=by decide +kernel
theorem zcC (t:List UInt8):(Zb (45::t)).e=0→(Zb (45::t)).k=4:=by
 have o:Zb (45::t)=Yu (45::t):=xj (by decide) (by decide) (by decide)
 rw [o]
 unfold Yu
 split
 ·intro h;simp at h
 ·intro _;rfl
theorem zfB {x:List UInt8} (hx:x∈signsL):Zb x=⟨4,x,0,x.length,0⟩:=by
 obtain ⟨c,r,rfl,o,h,y,-⟩:=Qs x hx;rw [xj o h y]
 unfold Yu
 rw [Qt _ hx,if_neg (by simp)]
theorem zi8 {x:List UInt8} (hx:yh x=true):Zb x=⟨5,x,0,x.length,0⟩:=by
 obtain ⟨c,r,rfl,o,h⟩:=uR x (by unfold yh at hx;exact List.contains_iff_mem.1 hx)
 rw [yZ o]
 unfold Yf
 rw [Qr h,if_pos hx]
theorem zg5 {x:List UInt8} (hx:xF x=true):Zb x=⟨1,x,0,x.length,0⟩:=by
 cases x with
 | nil=>simp [xF] at hx
 | cons c r =>
  unfold xF at hx
  simp only at hx;rw [Bool.and_eq_true,Bool.and_eq_true,Bool.and_eq_true,decide_eq_true_eq] at hx;obtain ⟨⟨⟨h,y⟩,o⟩,A⟩:=hx;have z:(c::r).all (fun c=>ym c.toNat)=true:=by rw [List.all_cons,y,Bool.and_true];simp [ym,h]
  rw [yZ h]
  unfold Yf
  rw [Qr z,if_neg (by intro e;rw [e] at o;cases o),if_neg (by omega)]
theorem ZV {k n:Int} {s:List UInt8} (h2:k≠2) (h3:k≠3):yr k n s↔(k=0∧s=[]∧n=0)∨(k=1∧xF s=true∧n=0)∨(k=4∧s∈signsL∧n=0)∨(k=5∧yh s=true∧n=0):=by
 have H:xL k n s=s:=by unfold xL;rw [if_neg h2,if_neg h3]
 unfold yr
 rw [H]
 constructor
 ·rintro ⟨A,o,y,z⟩
  cases s with
  | nil=>exact .inl ⟨o.symm,rfl,z.symm⟩
  | cons x r =>
   right
   cases h1:Zw x.toNat with
   | true =>
    rw [yZ h1] at A o y z
    unfold Yf at A o y z
    by_cases hq:yh (Z4 (x::r))=true
    ·rw [if_pos hq] at A o y z
     simp only at A o y z;rw [y] at hq;exact .inr (.inr ⟨o.symm,hq,z.symm⟩)
    ·rw [if_neg hq] at A o y z
     by_cases h20:20<(Z4 (x::r)).length
     ·rw [if_pos h20] at A;simp at A
     ·rw [if_neg h20] at A o y z
      simp only at A o y z;have D:=zac y;rw [y] at hq h20;refine .inl ⟨o.symm,?_,z.symm⟩
      unfold xF
      simp only;rw [List.all_cons,Bool.and_eq_true] at D;rw [h1,D.2,decide_eq_true (by omega)]
      simp [hq]
   | false =>
    cases h4:Zx x.toNat with
    | true =>
     rw [Vq h1 h4] at A o y z
     unfold XT at A o y z
     split at y
     ·simp at y
     ·simp at y
    | false =>
     by_cases h34:x.toNat=34
     ·rw [uj h1 h4 h34] at A o
      have:=(zbt _ _ _ _ A)
      unfold yT at o
      rw [this] at o;exact absurd o.symm h3
     ·rw [xj h1 h4 h34] at A o y z
      unfold Yu at A o y z
      by_cases hb:bestS (x::r) 25=[]
      ·rw [if_pos hb] at A;simp at A
      ·rw [if_neg hb] at o y z
       simp only at o y z;rcases (zaW (x::r)).2 with G | ⟨G,-⟩
       ·exact absurd G hb
       ·rw [y] at G
        exact .inr (.inl ⟨o.symm,G,z.symm⟩)
 ·rintro (⟨rfl,rfl,rfl⟩ | ⟨rfl,h,rfl⟩ | ⟨rfl,h,rfl⟩ | ⟨rfl,h,rfl⟩)
  ·exact ⟨rfl,rfl,rfl,rfl⟩
  ·rw [zg5 h];exact ⟨rfl,rfl,rfl,rfl⟩
  ·rw [zfB h];exact ⟨rfl,rfl,rfl,rfl⟩
  ·rw [zi8 h];exact ⟨rfl,rfl,rfl,rfl⟩
theorem UY {n:Int} {s:List UInt8} (hn1:n≤9223372036854775807):yr 2 n s↔s=[]∧0≤n:=by
 unfold yr
 have A:xL 2 n s=Lib.itoa n:=rfl;rw [A]
 unfold Lib.itoa
 by_cases h:n<0
 ·rw [if_pos h]
  constructor
  ·rintro ⟨D,y,-,-⟩
   have:=zcC _ D
   rw [this] at y;cases y
  ·rintro ⟨-,z⟩;omega
 ·rw [if_neg h]
  have o:=zbs n.toNat (by omega) [] (fun x hx=>by simp at hx)
  rw [List.append_nil] at o;rw [o]
  constructor
  ·rintro ⟨-,-,G,-⟩;exact ⟨G.symm,by omega⟩
  ·rintro ⟨rfl,z⟩
   refine ⟨rfl,rfl,rfl,?_⟩;show ((n.toNat:Nat):Int)=n
   omega
theorem uk {n:Int} {s:List UInt8}:yr 3 n s↔Xv s=true∧n=0:=by
 unfold yr
 have z:xL 3 n s=Z7 s:=rfl;rw [z];cases hp:Xv s with
 | false =>
  constructor
  ·rintro ⟨A,-⟩;exact absurd A (Uz s hp)
  ·rintro ⟨h,-⟩;cases h
 | true =>
  have o:=Vb s [] hp;rw [List.append_nil] at o;rw [o]
  constructor
  ·rintro ⟨-,-,-,y⟩;exact ⟨rfl,y.symm⟩
  ·rintro ⟨-,rfl⟩;exact ⟨rfl,rfl,rfl,rfl⟩
def rgK (k:Int) (s:List UInt8) (n:Int) (m:Nat):Bool :=
 if k=1 then decide (0≤n)&&s==[]&&m==0
 else if k=2 then (n==0||n==1)&&s==[]&&m==0
 else if k=3 then Xv s&&n==0&&m==0
 else if k=4 then xF s&&n==0&&m==0
 else if k=5 then xF s&&n==0
 else if k=11 then xF s&&n==0
 else if k=6 then (s==[45]||s==[33])&&n==0&&m==1
 else if k=7 then decide (0<levelOf s)&&n==0&&m==2
 else if k=8 then s==[]&&n==0&&m==2
 else if k=9 then xF s&&n==0&&m==1
 else if k=10 then s==[]&&n==0&&decide (0<m)
 else false
mutual
def rgE:Ez→Bool
 | .mk k s n kids _=>rgL kids&&rgK k s n kids.length
def rgL:List Ez→Bool
 | []=>true
 | x::xs=>rgE x&&rgL xs
end
mutual
def qw:Ez→Nat
 | .mk _ _ _ kids _=>dpL kids+1
def dpL:List Ez→Nat
 | []=>0
 | x::xs=>max (qw x) (dpL xs)
end
def zdn:List (List UInt8)→List UInt8
 | []=>[]
 | [t]=>t
 | t::u::r=>t++[44,32]++zdn (u::r)
def VM (x:Ez) (least:Nat) (t:List UInt8):List UInt8:=if vJ x<least then [40]++t++[41] else t
def txK (k:Int) (s:List UInt8) (n:Int) (kids:List Ez) (ts:List (List UInt8)):List UInt8 :=
 if k=1 then Lib.decDigits n.toNat
 else if k=2 then (if n=1 then [116,114,117,101] else [102,97,108,115,101])
 else if k=3 then Z7 s
 else if k=4 then s
 else if k=5 then s++[40]++zdn ts++[41]
 else if k=6 then (match kids,ts with
  | a::_,t::_=>s++VM a 7 t
  | _,_=>[])
 else if k=7 then (match kids,ts with
  | a::b::_,t::u::_=>VM a (levelOf s) t++[32]++s++[32]++VM b (levelOf s+1) u
  | _,_=>[])
 else if k=8 then (match kids,ts with
  | a::_,t::u::_=>VM a 8 t++[91]++u++[93]
  | _,_=>[])
 else if k=9 then (match kids,ts with
  | a::_,t::_=>VM a 8 t++[46]++s
  | _,_=>[])
 else if k=10 then [91]++zdn ts++[93]
 else [110,101,119,32]++s++[40]++zdn ts++[41]
mutual
def txE:Ez→List UInt8
 | .mk k s n kids _=>txK k s n kids (txL kids)
def txL:List Ez→List (List UInt8)
 | []=>[]
 | x::xs=>txE x::txL xs
end
theorem zdo {l:List Ez} {d:Nat}:dpL l≤d↔∀y∈l,qw y≤d:=by
 induction l with
 | nil=>simp [dpL]
 | cons x xs ih=>rw [dpL,List.forall_mem_cons,←ih];omega
mutual
def nbE:Ez→Bool
 | .mk _ _ n kids _=>decide (n≤9223372036854775807)&&nbL kids
def nbL:List Ez→Bool
 | []=>true
 | x::xs=>nbE x&&nbL xs
end
mutual
def lnE:Ez→Nat
 | .mk _ s _ kids _=>2*s.length+120+lnL kids
def lnL:List Ez→Nat
 | []=>0
 | x::xs=>lnE x+4+lnL xs
end
end Go.Proofs.YtcphojjpapgblaaGreatDoor
