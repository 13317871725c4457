import Derived.Test.YtbjndgachcdbcaaGreatDoorVModel
import Derived.Test.YtbjndgachcdbcaaGreatDoorShelf
namespace Go.Proofs.YtbjndgachcdbcaaGreatDoor
open Go.RowKit Go.Shelf
def ZL (s:List UInt8):Prop:=∀c∈s,c≠10
theorem Zw:∀(t cur:List UInt8),ZL cur→∃rest,ZL rest∧cur++t=zi (endsAt cur t)++rest∧∀s∈endsAt cur t,ZL s
 | [],cur,h=>⟨cur,h,by simp [endsAt,zi],by simp [endsAt]⟩
 | c::t,cur,h=>by
  unfold endsAt
  by_cases hc:c=10
  ·rw [if_pos hc]
   obtain ⟨rest,q,e,m⟩:=Zw t [] (fun _ b=>by cases b)
   refine ⟨rest,q,?_,?_⟩
   ·rw [List.nil_append] at e
    rw [show zi (cur::endsAt [] t)=cur++[10]++zi (endsAt [] t) by simp [zi],hc]
    conv=>lhs;rw [e]
    simp
   ·intro s o
    rcases List.mem_cons.1 o with rfl | o
    ·exact h
    ·exact m s o
  ·rw [if_neg hc]
   obtain ⟨rest,q,e,m⟩:=Zw t (cur++[c]) (fun x b=>by
    rcases List.mem_append.1 b with b | b
    ·exact h x b
    ·rw [List.mem_singleton] at b;rw [b];exact hc)
   refine ⟨rest,q,?_,m⟩;rw [←e];simp
theorem Zo (a b:List (List UInt8)):zi (a++b)=zi a++zi b:=by simp [zi]
theorem yg (s:List UInt8):zi [s]=s++[10]:=by simp [zi]
theorem Z4 (l:List UInt8) (j:Nat) (h:j<l.length):(za l).data[j]! =l[j]:=by
 have e:(za l).data=l.toArray:=rfl;rw [e,getElem!_pos l.toArray j (by simpa using h)]
 simp
theorem vz (r:List UInt8) (h:ZL r):Lib.lastIndexByte (za r) 10=-1:=by
 rcases Lib.lastIndexByte_spec (za r) 10 with ⟨e,_⟩ | ⟨i,m,_,o,_⟩
 ·exact e
 ·have b:i<r.length:=m
  rw [Z4 r i b] at o;have c:(r[i]).toNat=10:=by omega
  exact absurd (UInt8.toNat_inj.1 (c.trans rfl)) (h r[i] (List.getElem_mem b))
theorem vA (a r:List UInt8) (h:ZL r):Lib.lastIndexByte (za (a++[10]++r)) 10=(a.length:Int):=by
 have x:(a++[10]++r).length=a.length+1+r.length:=by simp;omega
 have b:(a++[10]++r)[a.length]'(by omega)=10:=by simp
 rcases Lib.lastIndexByte_spec (za (a++[10]++r)) 10 with ⟨_,c⟩ | ⟨i,A,e,y,c⟩
 ·have:=c a.length (by show _<(a++[10]++r).length;omega)
  rw [Z4 _ a.length (by omega),b] at this
  exact absurd rfl this
 ·have u:i<(a++[10]++r).length:=A
  rw [e];rcases Nat.lt_trichotomy i a.length with m | o | z
  ·have:=c a.length m (by show _<(a++[10]++r).length;omega)
   rw [Z4 _ a.length (by omega),b] at this
   exact absurd rfl this
  ·rw [o]
  ·rw [Z4 _ i u,List.getElem_append_right (by simp;omega)] at y
   have q:(r[i-(a++[10]).length]'(by simp;omega)).toNat=10:=by omega
   exact absurd (UInt8.toNat_inj.1 (q.trans rfl)) (h _ (List.getElem_mem _))
def endB (ls:List (List UInt8)) (k:Nat):Nat:=(zi (ls.take k)).length
theorem xX (ls:List (List UInt8)) (r:List UInt8) (h:ZL r):Lib.lastIndexByte (za (zi ls++r)) 10+1=((zi ls).length:Int):=by
 rcases List.eq_nil_or_concat ls with rfl | ⟨l,x,rfl⟩
 ·rw [show zi []++r=r from rfl,vz r h];rfl
 ·rw [List.concat_eq_append,Zo,yg,←List.append_assoc,vA _ r h]
  simp
  omega
theorem yE {ls:List (List UInt8)} {k:Nat} (h:k<ls.length):zi (ls.take (k+1))=zi (ls.take k)++ls[k]++[10]:=by
 have e:ls.take k++[ls[k]]=ls.take (k+1):=List.take_append_getElem h;rw [←e,Zo,yg,List.append_assoc]
theorem VU {ls:List (List UInt8)} {k:Nat} (h:k<ls.length):endB ls k<endB ls (k+1):=by
 unfold endB;rw [yE h];simp
theorem Y3 {ls:List (List UInt8)} {j k:Nat} (h:j<k) (hk:k≤ls.length):endB ls j<endB ls k:=by
 induction k with
 | zero=>omega
 | succ k ih =>
  have b:=VU (ls:=ls) (k:=k) (by omega)
  by_cases hj:j=k
  ·rw [hj];exact b
  ·have:=ih (by omega) (by omega);omega
theorem vB {ls:List (List UInt8)} {r out:List UInt8} (ho:out=zi ls++r) {k:Nat} (hk:k<ls.length):out.take (endB ls (k+1)-1)=zi (ls.take k)++ls[k]:=by
 have e:out=zi (ls.take k)++ls[k]++([10]++(zi (ls.drop (k+1))++r)):=by
  rw [ho]
  conv=>lhs;rw [←List.take_append_drop (k+1) ls]
  rw [Zo,yE hk];simp
 have b:endB ls (k+1)-1=(zi (ls.take k)++ls[k]).length:=by unfold endB;rw [yE hk];simp
 rw [b,e,List.take_left]
def zp:List (List UInt8)→List UInt8
 | []=>[]
 | [x]=>x
 | x::y::t=>x++[10]++zp (y::t)
theorem yh:∀(l:List (List UInt8)),l≠[]→zi l=zp l++[10]
 | [],h=>absurd rfl h
 | [x],_=>yg x
 | x::y::t,_=>by
  have b:=yh (y::t) (by simp)
  rw [show zi (x::y::t)=(x++[10])++zi (y::t) from rfl,b];simp [zp]
theorem Y4 (x r:List UInt8) (h:ZL x):Lib.index (x++[10]++r) [10]=(x.length:Int):=by
 refine Lib.index_first (i:=x.length) (by simp) ?_ ?_
 ·unfold Lib.occAt;simp
 ·intro j b
  unfold Lib.occAt
  have c:(x++[10]++r).drop j=x[j]::(x++[10]++r).drop (j+1):=by
   rw [List.drop_eq_getElem_cons (by simp;omega)]
   congr 1
   rw [List.getElem_append_left (by simp;omega),List.getElem_append_left b]
  rw [c];simp only [List.isPrefixOf]
  have:=h x[j] (List.getElem_mem b)
  simp [Ne.symm this]
theorem xY (x:List UInt8) (h:ZL x):Lib.index x [10]=-1:=by
 refine Lib.index_none fun j hj=>?_
 unfold Lib.occAt
 by_cases hl:j<x.length
 ·rw [List.drop_eq_getElem_cons hl]
  have:=h x[j] (List.getElem_mem hl)
  simp only [List.isPrefixOf]
  simp [Ne.symm this]
 ·rw [List.drop_eq_nil_of_le (by omega)];rfl
theorem Yx:∀(l:List (List UInt8)) (k:Nat),l.length=k+1→(∀s∈l,ZL s)→Lib.splitK [10] 0 k (zp l)=l
 | [],_,h,_=>by simp at h
 | [x],0,_,_=>rfl
 | [x],k+1,h,_=>by simp at h
 | x::y::t,0,h,_=>by simp at h
 | x::y::t,k+1,h,hn=>by
  have c:=Yx (y::t) k (by simpa using h) fun s hs=>hn s (by simp [hs])
  have b:=Y4 x (zp (y::t)) (hn x (by simp))
  rw [show zp (x::y::t)=x++[10]++zp (y::t) from rfl]
  unfold Lib.splitK
  rw [if_neg (by rw [b,beq_iff_eq];omega),b]
  have m:(x++[10]++zp (y::t)).take ((x.length:Int).toNat+0)=x:=by
   rw [List.append_assoc];simp
  have e:(x++[10]++zp (y::t)).drop ((x.length:Int).toNat+[(10:UInt8)].length)=zp (y::t):=by
   have:(x.length:Int).toNat+[(10:UInt8)].length=(x++[10]).length:=by simp
   rw [this,List.drop_left]
  rw [m,e,c]
theorem Yy:∀(l:List (List UInt8)),l≠[]→(∀s∈l,ZL s)→Lib.count (zp l) [10]+1=l.length
 | [],h,_=>absurd rfl h
 | [x],_,hn=>by
  rw [show zp [x]=x from rfl,Lib.count_miss (xY x (hn x (by simp)))];rfl
 | x::y::t,_,hn=>by
  have b:=Yy (y::t) (by simp) fun s hs=>hn s (by simp [hs])
  have c:=Y4 x (zp (y::t)) (hn x (by simp))
  rw [show zp (x::y::t)=x++[10]++zp (y::t) from rfl,Lib.count_hit (by simp) c]
  have e:(x++[10]++zp (y::t)).drop (x.length+[(10:UInt8)].length)=zp (y::t):=by
   have:x.length+[(10:UInt8)].length=(x++[10]).length:=by simp
   rw [this,List.drop_left]
  rw [e];simp only [List.length_cons] at b ⊢;omega
theorem xZ (l:List (List UInt8)) (h:l≠[]) (hn:∀s∈l,ZL s):Lib.splitB (za [10]) 0 (Lib.countB (za (zp l)) (za [10])) (za (zp l))=l.map za∧Lib.countB (za (zp l)) (za [10])+1=l.length:=by
 have b:Lib.countB (za (zp l)) (za [10])+1=l.length:=Yy l h hn;obtain ⟨k,o⟩:∃k,k=Lib.countB (za (zp l)) (za [10]):=⟨_,rfl⟩;rw [←o] at b ⊢;refine ⟨?_,b⟩;have c:=Lib.splitB_data (za [10]) 0 k (za (zp l));have q:(za (zp l)).data.toList=zp l:=rfl;have e:(za [10]).data.toList=[10]:=rfl;rw [q,e,Yx l k b.symm hn] at c
 have u:∀(m:List ByteArray),(m.map (·.data.toList)).map za=m:=by
  intro m
  induction m with
  | nil=>rfl
  | cons a t ih =>
   simp only [List.map_cons,List.cons.injEq];exact ⟨trivial,ih⟩
 rw [←u (Lib.splitB (za [10]) 0 k (za (zp l))),c]
end Go.Proofs.YtbjndgachcdbcaaGreatDoor
