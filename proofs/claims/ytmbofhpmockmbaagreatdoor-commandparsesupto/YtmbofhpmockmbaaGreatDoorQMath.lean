import Derived.Lib.ItoaNum
import Derived.Lib.AtoiAllCases
namespace Go.Proofs.YtmbofhpmockmbaaGreatDoor
def XD (a:Nat):List UInt8→Nat
 | []=>a
 | c::r=>XD (a*10+(c.toNat-48)) r
def vE (c:UInt8):Bool:=decide (48≤c.toNat∧c.toNat≤57)
theorem qo (l:List UInt8) (c:UInt8):∀a,XD a (l++[c])=XD a l*10+(c.toNat-48):=by
 induction l with
 | nil=>intro a;rfl
 | cons b r ih=>intro a;exact ih _
theorem UU (l:List UInt8):∀a,a≤XD a l:=by
 induction l with
 | nil=>intro a;exact Nat.le_refl _
 | cons b r ih=>intro a;exact Nat.le_trans (by omega) (ih _)
theorem XE (u:Nat):∀c∈Lib.decDigits u,vE c=true:=by
 induction u using Nat.strongRecOn with
 | _ u ih =>
  have o:∀d:Nat,d<10→vE (UInt8.ofNat (48+d))=true:=by decide
  intro c e;rw [Lib.decDigits] at e
  by_cases h:u<10
  ·rw [dif_pos h,List.mem_singleton] at e
   rw [e];exact o u h
  ·rw [dif_neg h,List.mem_append,List.mem_singleton] at e
   rcases e with e | e
   ·exact ih (u / 10) (by omega) c e
   ·rw [e];exact o (u % 10) (by omega)
theorem XF (u:Nat):XD 0 (Lib.decDigits u)=u:=by
 induction u using Nat.strongRecOn with
 | _ u ih =>
  have e:∀d:Nat,d<10→(UInt8.ofNat (48+d)).toNat-48=d:=by decide
  rw [Lib.decDigits]
  by_cases h:u<10
  ·rw [dif_pos h]
   show 0*10+((UInt8.ofNat (48+u)).toNat-48)=u
   rw [e u h];omega
  ·rw [dif_neg h,qo,ih (u / 10) (by omega),e (u % 10) (by omega)]
   omega
theorem zag (u:Nat):Lib.decDigits u≠[]:=by
 intro h
 have:=congrArg List.length h
 rw [Lib.decDigits_length,List.length_nil] at this
 have:1≤Lib.nDigits u:=by
  rw [Lib.nDigits];split <;> omega
 omega
def Yn (l:List UInt8):Int :=
 match Lib.atoiAll l with
 | .ok v=>v
 | .syntax=>0
 | .range=>Lib.atoiSat l
theorem vZ:∀(l:List UInt8) (a:Nat),(∀c∈l,vE c=true)→XD a l≤4294967296→Lib.parseUint10 a l=.ok (XD a l)
 | [],a,_,_=>rfl
 | c::r,a,hd,hv=>by
  have o:=of_decide_eq_true (hd c (List.mem_cons_self ..));have y:=UU r (a*10+(c.toNat-48));have e:XD (a*10+(c.toNat-48)) r≤4294967296:=hv;rw [Lib.parseUint10,if_pos o,if_neg (by omega),if_neg (by omega)]
  exact vZ r _ (fun d h=>hd d (List.mem_cons_of_mem _ h)) e
theorem xQ (u:Nat) (hu:u≤4294967296):Yn (Lib.decDigits u)=u:=by
 have hd:=XE u;have h:=XF u;have e:=zag u
 unfold Yn
 cases hl:Lib.decDigits u with
 | nil=>exact absurd hl e
 | cons c r =>
  rw [hl] at hd h;have y:=of_decide_eq_true (hd c (List.mem_cons_self ..));have o:=vZ (c::r) 0 hd (by omega)
  rw [Lib.atoiAll_plain c r (by omega) (by omega)]
  unfold Lib.parseMag
  rw [if_neg (by simp),o,h]
  simp only [Lib.signless];rw [if_neg (by omega)]
def yk (n:Nat):List UInt8→Nat × Nat
 | []=>(n,0)
 | c::r=>if vE c=true∧n≤4294967296 then ((yk (10*n+(c.toNat-48)) r).1,(yk (10*n+(c.toNat-48)) r).2+1) else (n,0)
theorem v6:∀(l r:List UInt8) (a:Nat),(∀c∈l,vE c=true)→XD a l≤4294967296→(∀c∈r.head?,vE c=false)→yk a (l++r)=(XD a l,l.length)
 | [],r,a,_,hv,hr=>by
  cases r with
  | nil=>rfl
  | cons c r =>
   have:=hr c (by simp)
   show yk a (c::r)=_
   rw [yk,if_neg (by simp [this])];rfl
 | c::l,r,a,hd,hv,hr=>by
  have y:=UU l (a*10+(c.toNat-48));have o:XD (a*10+(c.toNat-48)) l≤4294967296:=hv;have e:10*a+(c.toNat-48)=a*10+(c.toNat-48):=by omega
  show yk a (c::(l++r))=_
  rw [yk,if_pos ⟨hd c (List.mem_cons_self ..),by omega⟩,e,v6 l r _ (fun d h=>hd d (List.mem_cons_of_mem _ h)) o hr]
  rfl
theorem XG (u:Nat) (hu:u≤4294967296) (r:List UInt8) (hr:∀c∈r.head?,vE c=false):yk 0 (Lib.decDigits u++r)=(u,(Lib.decDigits u).length):=by
 have:=v6 (Lib.decDigits u) r 0 (XE u) (by rw [XF];exact hu) hr
 rw [XF] at this;exact this
theorem zah (l:List UInt8):∀a,a≤42949672970→(yk a l).1≤42949672970∧(yk a l).2≤l.length:=by
 induction l with
 | nil=>intro a h;exact ⟨h,Nat.le_refl _⟩
 | cons c r ih =>
  intro a h;rw [yk]
  by_cases hc:vE c=true∧a≤4294967296
  ·rw [if_pos hc]
   have e:=of_decide_eq_true hc.1
   have:=ih (10*a+(c.toNat-48)) (by omega)
   exact ⟨this.1,by have:=this.2;simp only [List.length_cons];omega⟩
  ·rw [if_neg hc];exact ⟨h,by simp⟩
def Zm (l:List UInt8):List UInt8 × List UInt8:=(l.takeWhile (· != 32),(l.dropWhile (· != 32)).drop 1)
theorem Y4 (a b:List UInt8) (ha:∀c∈a,(c != 32)=true):Zm (a++32::b)=(a,b):=by
 unfold Zm
 rw [List.takeWhile_append_of_pos ha,List.dropWhile_append_of_pos ha]
 simp
theorem VB (a:List UInt8) (ha:∀c∈a,(c != 32)=true):Zm a=(a,[]):=by
 unfold Zm
 have h:a.takeWhile (· != 32)=a:=by
  have:=List.takeWhile_append_of_pos (l₂:=[]) ha
  simpa using this
 have e:a.dropWhile (· != 32)=[]:=by
  have:=List.dropWhile_append_of_pos (l₂:=[]) ha
  simpa using this
 rw [h,e];rfl
theorem XH (l:List UInt8):(Zm l).1.length≤l.length∧(Zm l).2.length≤l.length:=by
 unfold Zm
 refine ⟨(List.takeWhile_sublist _).length_le,?_⟩
 have:=(List.dropWhile_sublist (fun c:UInt8=>c != 32) (l:=l)).length_le
 simp only [List.length_drop];omega
abbrev Wq:=Int × List UInt8 × Bool × Int × Bool × List UInt8
def tabQ:List Wq:=[
 (1,[115,116,101,112],false,0,false,[]),
 (2,[110,101,120,116],false,0,false,[]),
 (3,[102,105,110,105,115,104],false,0,false,[]),
 (4,[99,111,110,116,105,110,117,101],false,0,false,[]),
 (5,[98,97,99,107,45,115,116,101,112],false,0,false,[]),
 (6,[98,97,99,107,45,110,101,120,116],false,0,false,[]),
 (7,[98,97,99,107,45,102,105,110,105,115,104],false,0,false,[]),
 (8,[98,97,99,107,45,99,111,110,116,105,110,117,101],false,0,false,[]),
 (9,[103,111,116,111],true,0,false,[]),
 (10,[98,114,101,97,107],true,1,true,[105,102]),
 (11,[119,97,116,99,104],false,0,true,[]),
 (12,[100,101,108,101,116,101],true,1,false,[]),
 (13,[101,110,97,98,108,101],true,1,false,[]),
 (14,[100,105,115,97,98,108,101],true,1,false,[]),
 (15,[117,112],false,0,false,[]),
 (16,[100,111,119,110],false,0,false,[]),
 (17,[112,114,105,110,116],false,0,true,[])]
def y5:Wq:=(0,[],false,0,false,[])
def findQ (p:Wq→Bool):Wq:=(tabQ.find? p).getD y5
def ofKind (k:Int):Wq:=findQ fun r=>decide (r.1=k)
def ofWord (t:List UInt8):Wq:=findQ fun r=>decide (r.2.1=t)
def Zt (X:List UInt8→Prop) (k n:Int) (s:List UInt8):Prop :=
 ofKind k≠y5∧((ofKind k).2.2.1=false→n=0)∧((ofKind k).2.2.2.2.1=false→s=[]) ∧
 ((ofKind k).2.2.1=true→(ofKind k).2.2.2.1≤n∧n≤4294967296) ∧
 ((ofKind k).2.2.2.2.1=true→(s=[]∧(ofKind k).2.2.2.2.2≠[])∨(s.length≤255∧X s))
def Zv (k n:Int) (s:List UInt8):List UInt8 :=
 (ofKind k).2.1++(if (ofKind k).2.2.1=true then 32::Lib.itoa n else [])++(if s≠[]∧(ofKind k).2.2.2.2.2≠[] then 32::(ofKind k).2.2.2.2.2 else [])++(if s≠[] then 32::s else [])
def zZ (l:List UInt8):Int × Int × List UInt8 :=
 let w:=ofWord (Zm l).1
 let r1:=(Zm l).2
 let n:=if w.2.2.1=true then Yn (Zm r1).1 else 0
 let r2:=if w.2.2.1=true then (Zm r1).2 else r1
 let r3:=if w.2.2.2.2.2≠[] then (Zm r2).2 else r2
 (w.1,n,if w.2.2.2.2.1=true then r3 else [])
theorem y6 (k:Int) (h:k<1∨17<k):ofKind k=y5:=by
 have:tabQ.find? (fun r=>decide (r.1=k))=none:=by
  rw [List.find?_eq_none];intro r e
  have o:1≤r.1∧r.1≤17:=by
   have:∀r∈tabQ,1≤r.1∧r.1≤17:=by decide
   exact this r e
  simp only [decide_eq_true_eq];omega
 unfold ofKind findQ
 rw [this];rfl
theorem YR {P:Int→Prop} (h1:P 1) (h2:P 2) (h3:P 3) (h4:P 4) (h5:P 5) (h6:P 6) (h7:P 7) (h8:P 8) (h9:P 9) (h10:P 10) (h11:P 11) (h12:P 12) (h13:P 13) (h14:P 14) (h15:P 15) (h16:P 16) (h17:P 17) (k:Int) (a:1≤k) (b:k≤17):P k:=by
 have:k=1∨k=2∨k=3∨k=4∨k=5∨k=6∨k=7∨k=8∨k=9∨k=10∨k=11∨k=12∨k=13∨k=14∨k=15∨k=16∨k=17:=by omega
 rcases this with rfl | rfl | rfl | rfl | rfl | rfl | rfl | rfl | rfl | rfl | rfl | rfl | rfl | rfl | rfl | rfl | rfl <;> assumption
theorem YS {X:List UInt8→Prop} {k n:Int} {s:List UInt8} (h:Zt X k n s):1≤k∧k≤17:=by
 by_cases hk:1≤k∧k≤17
 ·exact hk
 ·exact absurd (y6 k (by omega)) h.1
theorem zaJ (u:Nat):∀c∈Lib.decDigits u,(c != 32)=true:=fun c hc=>by
 have:=of_decide_eq_true (XE u c hc)
 have h:c≠32:=fun h=>by rw [h] at this;exact absurd this.1 (by decide)
 simpa using h
theorem xh (n:Int) (h:0≤n):Lib.itoa n=Lib.decDigits n.toNat:=by unfold Lib.itoa;rw [if_neg (by omega)]
theorem zai {X:List UInt8→Prop} (hX:¬ X []) {k n:Int} {s:List UInt8} (h:Zt X k n s):zZ (Zv k n s)=(k,n,s):=by
 obtain ⟨O,T⟩:=YS h
 have o:∀(k:Int),(ofKind k).2.2.1=false→(ofKind k).2.2.2.2.1=false→(∀c∈(ofKind k).2.1,(c != 32)=true)→ofWord (ofKind k).2.1=ofKind k→(ofKind k).1=k→Zt X k n s→zZ (Zv k n s)=(k,n,s):=by
  intro k z D G hd E h;obtain rfl:=h.2.1 z;obtain rfl:=h.2.2.1 D
  have:Zv k 0 []=(ofKind k).2.1:=by simp [Zv,z]
  rw [this]
  unfold zZ
  rw [VB _ G];simp only;rw [hd,z,D,E]
  simp
 have y:∀(k:Int),(ofKind k).2.2.1=true→(ofKind k).2.2.2.2.1=false→(ofKind k).2.2.2.2.2=[]→0≤(ofKind k).2.2.2.1→(∀c∈(ofKind k).2.1,(c != 32)=true)→ofWord (ofKind k).2.1=ofKind k→(ofKind k).1=k→Zt X k n s→zZ (Zv k n s)=(k,n,s):=by
  intro k z D I R G hd E h;obtain rfl:=h.2.2.1 D;obtain ⟨K,Q⟩:=h.2.2.2.1 z;have L:0≤n:=Int.le_trans R K
  have:Zv k n []=(ofKind k).2.1++32::Lib.decDigits n.toNat:=by simp [Zv,z,xh n L]
  rw [this]
  unfold zZ
  rw [Y4 _ _ G];simp only;rw [hd,z,D,E,VB _ (zaJ _)]
  simp only [if_true,xQ n.toNat (by omega)]
  simp [Int.toNat_of_nonneg L]
 have A:∀(k:Int),(ofKind k).2.2.1=false→(ofKind k).2.2.2.2.1=true→(ofKind k).2.2.2.2.2=[]→(∀c∈(ofKind k).2.1,(c != 32)=true)→ofWord (ofKind k).2.1=ofKind k→(ofKind k).1=k→Zt X k n s→zZ (Zv k n s)=(k,n,s):=by
  intro k z D I G hd E h;obtain rfl:=h.2.1 z
  have H:s≠[]:=by
   rintro rfl;rcases h.2.2.2.2 D with h | h
   ·exact h.2 I
   ·exact hX h.2
  have:Zv k 0 s=(ofKind k).2.1++32::s:=by simp [Zv,z,I,H]
  rw [this]
  unfold zZ
  rw [Y4 _ _ G];simp only;rw [hd,z,D,I,E]
  simp
 have J:Zt X 10 n s→zZ (Zv 10 n s)=(10,n,s):=by
  intro h;have e:ofKind 10=(10,[98,114,101,97,107],true,1,true,[105,102]):=by decide
  have M:=h.2.2.2.1;rw [e] at M;obtain ⟨K,Q⟩:=M rfl;simp only at K;have N:ofWord [98,114,101,97,107]=(10,[98,114,101,97,107],true,1,true,[105,102]):=by decide
  by_cases H:s=[]
  ·subst H
   have:Zv 10 n []=[98,114,101,97,107]++32::Lib.decDigits n.toNat:=by unfold Zv;rw [e];simp [xh n (by omega)]
   rw [this]
   unfold zZ
   rw [Y4 _ _ (by decide)]
   simp only;rw [N,VB _ (zaJ _)]
   simp only [if_true,xQ n.toNat (by omega)]
   rw [Int.toNat_of_nonneg (by omega)]
   rfl
  ·have:Zv 10 n s=[98,114,101,97,107]++32::(Lib.decDigits n.toNat++32::([105,102]++32::s)):=by unfold Zv;rw [e];simp [xh n (by omega),H]
   rw [this]
   unfold zZ
   rw [Y4 _ _ (by decide)]
   simp only;rw [N,Y4 _ _ (zaJ _)]
   simp only [if_true,xQ n.toNat (by omega)]
   rw [Y4 _ _ (by decide),Int.toNat_of_nonneg (by omega)]
   rfl
 revert h
 exact YR (P:=fun k=>Zt X k n s→zZ (Zv k n s)=(k,n,s))
  (o 1 (by decide) (by decide) (by decide) (by decide) (by decide)) (o 2 (by decide) (by decide) (by decide) (by decide) (by decide)) (o 3 (by decide) (by decide) (by decide) (by decide) (by decide))
  (o 4 (by decide) (by decide) (by decide) (by decide) (by decide)) (o 5 (by decide) (by decide) (by decide) (by decide) (by decide)) (o 6 (by decide) (by decide) (by decide) (by decide) (by decide))
  (o 7 (by decide) (by decide) (by decide) (by decide) (by decide)) (o 8 (by decide) (by decide) (by decide) (by decide) (by decide)) (y 9 (by decide) (by decide) (by decide) (by decide) (by decide) (by decide) (by decide))
  J (A 11 (by decide) (by decide) (by decide) (by decide) (by decide) (by decide)) (y 12 (by decide) (by decide) (by decide) (by decide) (by decide) (by decide) (by decide)) (y 13 (by decide) (by decide) (by decide) (by decide) (by decide) (by decide) (by decide))
  (y 14 (by decide) (by decide) (by decide) (by decide) (by decide) (by decide) (by decide)) (o 15 (by decide) (by decide) (by decide) (by decide) (by decide)) (o 16 (by decide) (by decide) (by decide) (by decide) (by decide))
  (A 17 (by decide) (by decide) (by decide) (by decide) (by decide) (by decide)) k O T
end Go.Proofs.YtmbofhpmockmbaaGreatDoor
