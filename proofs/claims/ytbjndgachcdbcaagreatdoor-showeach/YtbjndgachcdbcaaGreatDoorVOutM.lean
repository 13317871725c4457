import Derived.Test.YtbjndgachcdbcaaGreatDoorMC18
import Derived.Test.YtbjndgachcdbcaaGreatDoorShelf
namespace Go.Proofs.YtbjndgachcdbcaaGreatDoor
open Go.RowKit Go.Shelf
def ZP (s:List UInt8):Prop:=∀c∈s,c≠10
theorem ZA:∀(t cur:List UInt8),ZP cur→∃rest,ZP rest∧cur++t=ze (endsAt cur t)++rest∧∀s∈endsAt cur t,ZP s
 | [],cur,h=>⟨cur,h,by simp [endsAt,ze],by simp [endsAt]⟩
 | c::t,cur,h=>by
  unfold endsAt
  by_cases hc:c=10
  ·rw [if_pos hc]
   obtain ⟨rest,q,e,o⟩:=ZA t [] (fun _ b=>by cases b)
   refine ⟨rest,q,?_,?_⟩
   ·rw [List.nil_append] at e
    rw [show ze (cur::endsAt [] t)=cur++[10]++ze (endsAt [] t) by simp [ze],hc]
    conv=>lhs;rw [e]
    simp
   ·intro s m
    rcases List.mem_cons.1 m with rfl | m
    ·exact h
    ·exact o s m
  ·rw [if_neg hc]
   obtain ⟨rest,q,e,o⟩:=ZA t (cur++[c]) (fun x b=>by
    rcases List.mem_append.1 b with b | b
    ·exact h x b
    ·rw [List.mem_singleton] at b;rw [b];exact hc)
   refine ⟨rest,q,?_,o⟩;rw [←e];simp
theorem zQ (a b:List (List UInt8)):ze (a++b)=ze a++ze b:=by simp [ze]
theorem ZX (s:List UInt8):ze [s]=s++[10]:=by simp [ze]
theorem ym (l:List UInt8) (j:Nat) (h:j<l.length):(za l).data[j]! =l[j]:=by
 have e:(za l).data=l.toArray:=rfl;rw [e,getElem!_pos l.toArray j (by simpa using h)]
 simp
theorem Vo (r:List UInt8) (h:ZP r):Lib.lastIndexByte (za r) 10=-1:=by
 rcases Lib.lastIndexByte_spec (za r) 10 with ⟨e,_⟩ | ⟨i,m,_,o,_⟩
 ·exact e
 ·have b:i<r.length:=m
  rw [ym r i b] at o;have c:(r[i]).toNat=10:=by omega
  exact absurd (UInt8.toNat_inj.1 (c.trans rfl)) (h r[i] (List.getElem_mem b))
theorem Vp (a r:List UInt8) (h:ZP r):Lib.lastIndexByte (za (a++[10]++r)) 10=(a.length:Int):=by
 have y:(a++[10]++r).length=a.length+1+r.length:=by simp;omega
 have b:(a++[10]++r)[a.length]'(by omega)=10:=by simp
 rcases Lib.lastIndexByte_spec (za (a++[10]++r)) 10 with ⟨_,o⟩ | ⟨i,B,e,A,o⟩
 ·have:=o a.length (by show _<(a++[10]++r).length;omega)
  rw [ym _ a.length (by omega),b] at this
  exact absurd rfl this
 ·have q:i<(a++[10]++r).length:=B
  rw [e];rcases Nat.lt_trichotomy i a.length with u | c | z
  ·have:=o a.length u (by show _<(a++[10]++r).length;omega)
   rw [ym _ a.length (by omega),b] at this
   exact absurd rfl this
  ·rw [c]
  ·rw [ym _ i q,List.getElem_append_right (by simp;omega)] at A
   have m:(r[i-(a++[10]).length]'(by simp;omega)).toNat=10:=by omega
   exact absurd (UInt8.toNat_inj.1 (m.trans rfl)) (h _ (List.getElem_mem _))
def endB (ls:List (List UInt8)) (k:Nat):Nat:=(ze (ls.take k)).length
theorem XA (ls:List (List UInt8)) (r:List UInt8) (h:ZP r):Lib.lastIndexByte (za (ze ls++r)) 10+1=((ze ls).length:Int):=by
 rcases List.eq_nil_or_concat ls with rfl | ⟨l,x,rfl⟩
 ·rw [show ze []++r=r from rfl,Vo r h];rfl
 ·rw [List.concat_eq_append,zQ,ZX,←List.append_assoc,Vp _ r h]
  simp
  omega
theorem Yb {ls:List (List UInt8)} {k:Nat} (h:k<ls.length):ze (ls.take (k+1))=ze (ls.take k)++ls[k]++[10]:=by
 have e:ls.take k++[ls[k]]=ls.take (k+1):=List.take_append_getElem h;rw [←e,zQ,ZX,List.append_assoc]
theorem uN {ls:List (List UInt8)} {k:Nat} (h:k<ls.length):endB ls k<endB ls (k+1):=by
 unfold endB;rw [Yb h];simp
theorem xw {ls:List (List UInt8)} {j k:Nat} (h:j<k) (hk:k≤ls.length):endB ls j<endB ls k:=by
 induction k with
 | zero=>omega
 | succ k ih =>
  have b:=uN (ls:=ls) (k:=k) (by omega)
  by_cases hj:j=k
  ·rw [hj];exact b
  ·have:=ih (by omega) (by omega);omega
theorem Vq {ls:List (List UInt8)} {r out:List UInt8} (ho:out=ze ls++r) {k:Nat} (hk:k<ls.length):out.take (endB ls (k+1)-1)=ze (ls.take k)++ls[k]:=by
 have e:out=ze (ls.take k)++ls[k]++([10]++(ze (ls.drop (k+1))++r)):=by
  rw [ho]
  conv=>lhs;rw [←List.take_append_drop (k+1) ls]
  rw [zQ,Yb hk];simp
 have b:endB ls (k+1)-1=(ze (ls.take k)++ls[k]).length:=by unfold endB;rw [Yb hk];simp
 rw [b,e,List.take_left]
def zu:List (List UInt8)→List UInt8
 | []=>[]
 | [x]=>x
 | x::y::t=>x++[10]++zu (y::t)
theorem yD:∀(l:List (List UInt8)),l≠[]→ze l=zu l++[10]
 | [],h=>absurd rfl h
 | [x],_=>ZX x
 | x::y::t,_=>by
  have b:=yD (y::t) (by simp)
  rw [show ze (x::y::t)=(x++[10])++ze (y::t) from rfl,b];simp [zu]
theorem xx (x r:List UInt8) (h:ZP x):Lib.index (x++[10]++r) [10]=(x.length:Int):=by
 refine Lib.index_first (i:=x.length) (by simp) ?_ ?_
 ·unfold Lib.occAt;simp
 ·intro j b
  unfold Lib.occAt
  have c:(x++[10]++r).drop j=x[j]::(x++[10]++r).drop (j+1):=by
   rw [List.drop_eq_getElem_cons (by simp;omega)]
   congr 1
   rw [List.getElem_append_left (by simp;omega),List.getElem_append_left b]
  rw [c];simp only [List.isPrefixOf]
  have:=h x[j] (List.getElem_mem b)
  simp [Ne.symm this]
theorem XB (x:List UInt8) (h:ZP x):Lib.index x [10]=-1:=by
 refine Lib.index_none fun j hj=>?_
 unfold Lib.occAt
 by_cases hl:j<x.length
 ·rw [List.drop_eq_getElem_cons hl]
  have:=h x[j] (List.getElem_mem hl)
  simp only [List.isPrefixOf]
  simp [Ne.symm this]
 ·rw [List.drop_eq_nil_of_le (by omega)];rfl
theorem YW:∀(l:List (List UInt8)) (k:Nat),l.length=k+1→(∀s∈l,ZP s)→Lib.splitK [10] 0 k (zu l)=l
 | [],_,h,_=>by simp at h
 | [x],0,_,_=>rfl
 | [x],k+1,h,_=>by simp at h
 | x::y::t,0,h,_=>by simp at h
 | x::y::t,k+1,h,hn=>by
  have m:=YW (y::t) k (by simpa using h) fun s hs=>hn s (by simp [hs])
  have b:=xx x (zu (y::t)) (hn x (by simp))
  rw [show zu (x::y::t)=x++[10]++zu (y::t) from rfl]
  unfold Lib.splitK
  rw [if_neg (by rw [b,beq_iff_eq];omega),b]
  have c:(x++[10]++zu (y::t)).take ((x.length:Int).toNat+0)=x:=by
   rw [List.append_assoc];simp
  have e:(x++[10]++zu (y::t)).drop ((x.length:Int).toNat+[(10:UInt8)].length)=zu (y::t):=by
   have:(x.length:Int).toNat+[(10:UInt8)].length=(x++[10]).length:=by simp
   rw [this,List.drop_left]
  rw [c,e,m]
theorem YX:∀(l:List (List UInt8)),l≠[]→(∀s∈l,ZP s)→Lib.count (zu l) [10]+1=l.length
 | [],h,_=>absurd rfl h
 | [x],_,hn=>by
  rw [show zu [x]=x from rfl,Lib.count_miss (XB x (hn x (by simp)))];rfl
 | x::y::t,_,hn=>by
  have e:=YX (y::t) (by simp) fun s hs=>hn s (by simp [hs])
  have c:=xx x (zu (y::t)) (hn x (by simp))
  rw [show zu (x::y::t)=x++[10]++zu (y::t) from rfl,Lib.count_hit (by simp) c]
  have b:(x++[10]++zu (y::t)).drop (x.length+[(10:UInt8)].length)=zu (y::t):=by
   have:x.length+[(10:UInt8)].length=(x++[10]).length:=by simp
   rw [this,List.drop_left]
  rw [b];simp only [List.length_cons] at e ⊢;omega
theorem XC (l:List (List UInt8)) (h:l≠[]) (hn:∀s∈l,ZP s):Lib.splitB (za [10]) 0 (Lib.countB (za (zu l)) (za [10])) (za (zu l))=l.map za∧Lib.countB (za (zu l)) (za [10])+1=l.length:=by
 have b:Lib.countB (za (zu l)) (za [10])+1=l.length:=YX l h hn;obtain ⟨k,u⟩:∃k,k=Lib.countB (za (zu l)) (za [10]):=⟨_,rfl⟩;rw [←u] at b ⊢;refine ⟨?_,b⟩;have c:=Lib.splitB_data (za [10]) 0 k (za (zu l));have o:(za (zu l)).data.toList=zu l:=rfl;have q:(za [10]).data.toList=[10]:=rfl;rw [o,q,YW l k b.symm hn] at c
 have e:∀(m:List ByteArray),(m.map (·.data.toList)).map za=m:=by
  intro m
  induction m with
  | nil=>rfl
  | cons a t ih =>
   simp only [List.map_cons,List.cons.injEq];exact ⟨trivial,ih⟩
 rw [←e (Lib.splitB (za [10]) 0 k (za (zu l))),c]
end Go.Proofs.YtbjndgachcdbcaaGreatDoor
