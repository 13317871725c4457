import Derived.Lib.ItoaNum
import Derived.Lib.AtoiAllCases
namespace Go.Proofs.YtmbofhpmockmbaaGreatDoor
def xD (a:Nat):List UInt8→Nat
 | []=>a
 | c::r=>xD (a*10+(c.toNat-48)) r
def VK (c:UInt8):Bool:=decide (48≤c.toNat∧c.toNat≤57)
theorem X3 (l:List UInt8) (c:UInt8):∀a,xD a (l++[c])=xD a l*10+(c.toNat-48):=by
 induction l with
 | nil=>intro a;rfl
 | cons b r ih=>intro a;exact ih _
theorem Vn (l:List UInt8):∀a,a≤xD a l:=by
 induction l with
 | nil=>intro a;exact Nat.le_refl _
 | cons b r ih=>intro a;exact Nat.le_trans (by omega) (ih _)
theorem xE (u:Nat):∀c∈Lib.decDigits u,VK c=true:=by
 induction u using Nat.strongRecOn with
 | _ u ih =>
  have o:∀d:Nat,d<10→VK (UInt8.ofNat (48+d))=true:=by decide
  intro c e;rw [Lib.decDigits] at e
  by_cases h:u<10
  ·rw [dif_pos h,List.mem_singleton] at e
   rw [e];exact o u h
  ·rw [dif_neg h,List.mem_append,List.mem_singleton] at e
   rcases e with e | e
   ·exact ih (u / 10) (by omega) c e
   ·rw [e];exact o (u % 10) (by omega)
theorem vO (u:Nat):xD 0 (Lib.decDigits u)=u:=by
 induction u using Nat.strongRecOn with
 | _ u ih =>
  have e:∀d:Nat,d<10→(UInt8.ofNat (48+d)).toNat-48=d:=by decide
  rw [Lib.decDigits]
  by_cases h:u<10
  ·rw [dif_pos h]
   show 0*10+((UInt8.ofNat (48+u)).toNat-48)=u
   rw [e u h];omega
  ·rw [dif_neg h,X3,ih (u / 10) (by omega),e (u % 10) (by omega)]
   omega
theorem Vo (u:Nat):Lib.decDigits u≠[]:=by
 intro h
 have:=congrArg List.length h
 rw [Lib.decDigits_length,List.length_nil] at this
 have:1≤Lib.nDigits u:=by
  rw [Lib.nDigits];split <;> omega
 omega
def Z1 (l:List UInt8):Int :=
 match Lib.atoiAll l with
 | .ok v=>v
 | .syntax=>0
 | .range=>Lib.atoiSat l
theorem YN:∀(l:List UInt8) (a:Nat),(∀c∈l,VK c=true)→xD a l≤4294967296→Lib.parseUint10 a l=.ok (xD a l)
 | [],a,_,_=>rfl
 | c::r,a,hd,hv=>by
  have o:=of_decide_eq_true (hd c (List.mem_cons_self ..));have x:=Vn r (a*10+(c.toNat-48));have e:xD (a*10+(c.toNat-48)) r≤4294967296:=hv;rw [Lib.parseUint10,if_pos o,if_neg (by omega),if_neg (by omega)]
  exact YN r _ (fun d h=>hd d (List.mem_cons_of_mem _ h)) e
theorem yK (u:Nat) (hu:u≤4294967296):Z1 (Lib.decDigits u)=u:=by
 have e:=xE u;have o:=vO u;have h:=Vo u
 unfold Z1
 cases hl:Lib.decDigits u with
 | nil=>exact absurd hl h
 | cons c r =>
  rw [hl] at e o;have y:=of_decide_eq_true (e c (List.mem_cons_self ..));have x:=YN (c::r) 0 e (by omega)
  rw [Lib.atoiAll_plain c r (by omega) (by omega)]
  unfold Lib.parseMag
  rw [if_neg (by simp),x,o]
  simp only [Lib.signless];rw [if_neg (by omega)]
def zH (l:List UInt8):List UInt8 × List UInt8:=(l.takeWhile (· != 32),(l.dropWhile (· != 32)).drop 1)
theorem yp (a b:List UInt8) (ha:∀c∈a,(c != 32)=true):zH (a++32::b)=(a,b):=by
 unfold zH
 rw [List.takeWhile_append_of_pos ha,List.dropWhile_append_of_pos ha]
 simp
theorem xd (a:List UInt8) (ha:∀c∈a,(c != 32)=true):zH a=(a,[]):=by
 unfold zH
 have h:a.takeWhile (· != 32)=a:=by
  have:=List.takeWhile_append_of_pos (l₂:=[]) ha
  simpa using this
 have e:a.dropWhile (· != 32)=[]:=by
  have:=List.dropWhile_append_of_pos (l₂:=[]) ha
  simpa using this
 rw [h,e];rfl
theorem Yc (l:List UInt8):(zH l).1.length≤l.length∧(zH l).2.length≤l.length:=by
 unfold zH
 refine ⟨(List.takeWhile_sublist _).length_le,?_⟩
 have:=(List.dropWhile_sublist (fun c:UInt8=>c != 32) (l:=l)).length_le
 simp only [List.length_drop];omega
abbrev Wq:=Int × List UInt8 × Bool × Int × Bool × List UInt8
def tabQ:List Wq:=[
 (1,[115,116,101,112],false,0,false,[]),
 (2,[110,101,120,116],false,0,false,[]),
 (3,[102,105,110,105,115,104],false,0,false,[]),
 (4,[99,111,110,116,105,110,117,101],false,0,false,[]),
 (5,[98,97,99,107,45,115,116,101,112],false,0,false,[]),
 (6,[98,97,99,107,45,110,101,120,116],false,0,false,[]),
 (7,[98,97,99,107,45,102,105,110,105,115,104],false,0,false,[]),
 (8,[98,97,99,107,45,99,111,110,116,105,110,117,101],false,0,false,[]),
 (9,[103,111,116,111],true,0,false,[]),
 (10,[98,114,101,97,107],true,1,true,[105,102]),
 (11,[119,97,116,99,104],false,0,true,[]),
 (12,[100,101,108,101,116,101],true,1,false,[]),
 (13,[101,110,97,98,108,101],true,1,false,[]),
 (14,[100,105,115,97,98,108,101],true,1,false,[]),
 (15,[117,112],false,0,false,[]),
 (16,[100,111,119,110],false,0,false,[]),
 (17,[112,114,105,110,116],false,0,true,[])]
def yg:Wq:=(0,[],false,0,false,[])
def findQ (p:Wq→Bool):Wq:=(tabQ.find? p).getD yg
def ofKind (k:Int):Wq:=findQ fun r=>decide (r.1=k)
def ofWord (t:List UInt8):Wq:=findQ fun r=>decide (r.2.1=t)
def ZG (X:List UInt8→Prop) (k n:Int) (s:List UInt8):Prop :=
 ofKind k≠yg∧((ofKind k).2.2.1=false→n=0)∧((ofKind k).2.2.2.2.1=false→s=[]) ∧
 ((ofKind k).2.2.1=true→(ofKind k).2.2.2.1≤n∧n≤4294967296) ∧
 ((ofKind k).2.2.2.2.1=true→(s=[]∧(ofKind k).2.2.2.2.2≠[])∨(s.length≤255∧X s))
def Zt (k n:Int) (s:List UInt8):List UInt8 :=
 (ofKind k).2.1++(if (ofKind k).2.2.1=true then 32::Lib.itoa n else [])++(if s≠[]∧(ofKind k).2.2.2.2.2≠[] then 32::(ofKind k).2.2.2.2.2 else [])++(if s≠[] then 32::s else [])
def zB (l:List UInt8):Int × Int × List UInt8 :=
 let w:=ofWord (zH l).1
 let r1:=(zH l).2
 let n:=if w.2.2.1=true then Z1 (zH r1).1 else 0
 let r2:=if w.2.2.1=true then (zH r1).2 else r1
 let r3:=if w.2.2.2.2.2≠[] then (zH r2).2 else r2
 (w.1,n,if w.2.2.2.2.1=true then r3 else [])
theorem yh (k:Int) (h:k<1∨17<k):ofKind k=yg:=by
 have:tabQ.find? (fun r=>decide (r.1=k))=none:=by
  rw [List.find?_eq_none];intro r e
  have o:1≤r.1∧r.1≤17:=by
   have:∀r∈tabQ,1≤r.1∧r.1≤17:=by decide
   exact this r e
  simp only [decide_eq_true_eq];omega
 unfold ofKind findQ
 rw [this];rfl
theorem Yd {P:Int→Prop} (h1:P 1) (h2:P 2) (h3:P 3) (h4:P 4) (h5:P 5) (h6:P 6) (h7:P 7) (h8:P 8) (h9:P 9) (h10:P 10) (h11:P 11) (h12:P 12) (h13:P 13) (h14:P 14) (h15:P 15) (h16:P 16) (h17:P 17) (k:Int) (a:1≤k) (b:k≤17):P k:=by
 have:k=1∨k=2∨k=3∨k=4∨k=5∨k=6∨k=7∨k=8∨k=9∨k=10∨k=11∨k=12∨k=13∨k=14∨k=15∨k=16∨k=17:=by omega
 rcases this with rfl | rfl | rfl | rfl | rfl | rfl | rfl | rfl | rfl | rfl | rfl | rfl | rfl | rfl | rfl | rfl | rfl <;> assumption
theorem vP {X:List UInt8→Prop} {k n:Int} {s:List UInt8} (h:ZG X k n s):1≤k∧k≤17:=by
 by_cases hk:1≤k∧k≤17
 ·exact hk
 ·exact absurd (yh k (by omega)) h.1
theorem VL (u:Nat):∀c∈Lib.decDigits u,(c != 32)=true:=fun c hc=>by
 have:=of_decide_eq_true (xE u c hc)
 have h:c≠32:=fun h=>by rw [h] at this;exact absurd this.1 (by decide)
 simpa using h
theorem YO (n:Int) (h:0≤n):Lib.itoa n=Lib.decDigits n.toNat:=by unfold Lib.itoa;rw [if_neg (by omega)]
theorem Vp {X:List UInt8→Prop} (hX:¬ X []) {k n:Int} {s:List UInt8} (h:ZG X k n s):zB (Zt k n s)=(k,n,s):=by
 obtain ⟨O,S⟩:=vP h
 have o:∀(k:Int),(ofKind k).2.2.1=false→(ofKind k).2.2.2.2.1=false→(∀c∈(ofKind k).2.1,(c != 32)=true)→ofWord (ofKind k).2.1=ofKind k→(ofKind k).1=k→ZG X k n s→zB (Zt k n s)=(k,n,s):=by
  intro k z A G E D h;obtain rfl:=h.2.1 z;obtain rfl:=h.2.2.1 A
  have:Zt k 0 []=(ofKind k).2.1:=by simp [Zt,z]
  rw [this]
  unfold zB
  rw [xd _ G];simp only;rw [E,z,A,D]
  simp
 have x:∀(k:Int),(ofKind k).2.2.1=true→(ofKind k).2.2.2.2.1=false→(ofKind k).2.2.2.2.2=[]→0≤(ofKind k).2.2.2.1→(∀c∈(ofKind k).2.1,(c != 32)=true)→ofWord (ofKind k).2.1=ofKind k→(ofKind k).1=k→ZG X k n s→zB (Zt k n s)=(k,n,s):=by
  intro k z A H Q G E D h;obtain rfl:=h.2.2.1 A;obtain ⟨K,R⟩:=h.2.2.2.1 z;have L:0≤n:=Int.le_trans Q K
  have:Zt k n []=(ofKind k).2.1++32::Lib.decDigits n.toNat:=by simp [Zt,z,YO n L]
  rw [this]
  unfold zB
  rw [yp _ _ G];simp only;rw [E,z,A,D,xd _ (VL _)]
  simp only [if_true,yK n.toNat (by omega)]
  simp [Int.toNat_of_nonneg L]
 have y:∀(k:Int),(ofKind k).2.2.1=false→(ofKind k).2.2.2.2.1=true→(ofKind k).2.2.2.2.2=[]→(∀c∈(ofKind k).2.1,(c != 32)=true)→ofWord (ofKind k).2.1=ofKind k→(ofKind k).1=k→ZG X k n s→zB (Zt k n s)=(k,n,s):=by
  intro k z A H G E D h;obtain rfl:=h.2.1 z
  have I:s≠[]:=by
   rintro rfl;rcases h.2.2.2.2 A with h | h
   ·exact h.2 H
   ·exact hX h.2
  have:Zt k 0 s=(ofKind k).2.1++32::s:=by simp [Zt,z,H,I]
  rw [this]
  unfold zB
  rw [yp _ _ G];simp only;rw [E,z,A,H,D]
  simp
 have J:ZG X 10 n s→zB (Zt 10 n s)=(10,n,s):=by
  intro h;have e:ofKind 10=(10,[98,114,101,97,107],true,1,true,[105,102]):=by decide
  have N:=h.2.2.2.1;rw [e] at N;obtain ⟨K,R⟩:=N rfl;simp only at K;have M:ofWord [98,114,101,97,107]=(10,[98,114,101,97,107],true,1,true,[105,102]):=by decide
  by_cases I:s=[]
  ·subst I
   have:Zt 10 n []=[98,114,101,97,107]++32::Lib.decDigits n.toNat:=by unfold Zt;rw [e];simp [YO n (by omega)]
   rw [this]
   unfold zB
   rw [yp _ _ (by decide)]
   simp only;rw [M,xd _ (VL _)]
   simp only [if_true,yK n.toNat (by omega)]
   rw [Int.toNat_of_nonneg (by omega)]
   rfl
  ·have:Zt 10 n s=[98,114,101,97,107]++32::(Lib.decDigits n.toNat++32::([105,102]++32::s)):=by unfold Zt;rw [e];simp [YO n (by omega),I]
   rw [this]
   unfold zB
   rw [yp _ _ (by decide)]
   simp only;rw [M,yp _ _ (VL _)]
   simp only [if_true,yK n.toNat (by omega)]
   rw [yp _ _ (by decide),Int.toNat_of_nonneg (by omega)]
   rfl
 revert h
 exact Yd (P:=fun k=>ZG X k n s→zB (Zt k n s)=(k,n,s))
  (o 1 (by decide) (by decide) (by decide) (by decide) (by decide)) (o 2 (by decide) (by decide) (by decide) (by decide) (by decide)) (o 3 (by decide) (by decide) (by decide) (by decide) (by decide))
  (o 4 (by decide) (by decide) (by decide) (by decide) (by decide)) (o 5 (by decide) (by decide) (by decide) (by decide) (by decide)) (o 6 (by decide) (by decide) (by decide) (by decide) (by decide))
  (o 7 (by decide) (by decide) (by decide) (by decide) (by decide)) (o 8 (by decide) (by decide) (by decide) (by decide) (by decide)) (x 9 (by decide) (by decide) (by decide) (by decide) (by decide) (by decide) (by decide))
  J (y 11 (by decide) (by decide) (by decide) (by decide) (by decide) (by decide)) (x 12 (by decide) (by decide) (by decide) (by decide) (by decide) (by decide) (by decide)) (x 13 (by decide) (by decide) (by decide) (by decide) (by decide) (by decide) (by decide))
  (x 14 (by decide) (by decide) (by decide) (by decide) (by decide) (by decide) (by decide)) (o 15 (by decide) (by decide) (by decide) (by decide) (by decide)) (o 16 (by decide) (by decide) (by decide) (by decide) (by decide))
  (y 17 (by decide) (by decide) (by decide) (by decide) (by decide) (by decide)) k O S
end Go.Proofs.YtmbofhpmockmbaaGreatDoor
