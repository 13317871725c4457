import Derived.Test.YtbjndgachcdbcaaGreatDoorMC18
import Derived.Test.YtbjndgachcdbcaaGreatDoorShelf
namespace Go.Proofs.YtbjndgachcdbcaaGreatDoor
open Go.RowKit Go.Shelf
def ZS (s:List UInt8):Prop:=∀c∈s,c≠10
theorem ZF:∀(t cur:List UInt8),ZS cur→∃rest,ZS rest∧cur++t=zk (endsAt cur t)++rest∧∀s∈endsAt cur t,ZS s
 | [],cur,h=>⟨cur,h,by simp [endsAt,zk],by simp [endsAt]⟩
 | c::t,cur,h=>by
  unfold endsAt
  by_cases hc:c=10
  ·rw [if_pos hc]
   obtain ⟨rest,m,e,q⟩:=ZF t [] (fun _ b=>by cases b)
   refine ⟨rest,m,?_,?_⟩
   ·rw [List.nil_append] at e
    rw [show zk (cur::endsAt [] t)=cur++[10]++zk (endsAt [] t) by simp [zk],hc]
    conv=>lhs;rw [e]
    simp
   ·intro s o
    rcases List.mem_cons.1 o with rfl | o
    ·exact h
    ·exact q s o
  ·rw [if_neg hc]
   obtain ⟨rest,m,e,q⟩:=ZF t (cur++[c]) (fun x b=>by
    rcases List.mem_append.1 b with b | b
    ·exact h x b
    ·rw [List.mem_singleton] at b;rw [b];exact hc)
   refine ⟨rest,m,?_,q⟩;rw [←e];simp
theorem Zy (a b:List (List UInt8)):zk (a++b)=zk a++zk b:=by simp [zk]
theorem yB (s:List UInt8):zk [s]=s++[10]:=by simp [zk]
theorem yg (l:List UInt8) (j:Nat) (h:j<l.length):(za l).data[j]! =l[j]:=by
 have e:(za l).data=l.toArray:=rfl;rw [e,getElem!_pos l.toArray j (by simpa using h)]
 simp
theorem Vh (r:List UInt8) (h:ZS r):Lib.lastIndexByte (za r) 10=-1:=by
 rcases Lib.lastIndexByte_spec (za r) 10 with ⟨e,_⟩ | ⟨i,o,_,m,_⟩
 ·exact e
 ·have b:i<r.length:=o
  rw [yg r i b] at m;have c:(r[i]).toNat=10:=by omega
  exact absurd (UInt8.toNat_inj.1 (c.trans rfl)) (h r[i] (List.getElem_mem b))
theorem Vi (a r:List UInt8) (h:ZS r):Lib.lastIndexByte (za (a++[10]++r)) 10=(a.length:Int):=by
 have y:(a++[10]++r).length=a.length+1+r.length:=by simp;omega
 have b:(a++[10]++r)[a.length]'(by omega)=10:=by simp
 rcases Lib.lastIndexByte_spec (za (a++[10]++r)) 10 with ⟨_,o⟩ | ⟨i,A,e,B,o⟩
 ·have:=o a.length (by show _<(a++[10]++r).length;omega)
  rw [yg _ a.length (by omega),b] at this
  exact absurd rfl this
 ·have m:i<(a++[10]++r).length:=A
  rw [e];rcases Nat.lt_trichotomy i a.length with u | c | z
  ·have:=o a.length u (by show _<(a++[10]++r).length;omega)
   rw [yg _ a.length (by omega),b] at this
   exact absurd rfl this
  ·rw [c]
  ·rw [yg _ i m,List.getElem_append_right (by simp;omega)] at B
   have q:(r[i-(a++[10]).length]'(by simp;omega)).toNat=10:=by omega
   exact absurd (UInt8.toNat_inj.1 (q.trans rfl)) (h _ (List.getElem_mem _))
def endB (ls:List (List UInt8)) (k:Nat):Nat:=(zk (ls.take k)).length
theorem Xt (ls:List (List UInt8)) (r:List UInt8) (h:ZS r):Lib.lastIndexByte (za (zk ls++r)) 10+1=((zk ls).length:Int):=by
 rcases List.eq_nil_or_concat ls with rfl | ⟨l,x,rfl⟩
 ·rw [show zk []++r=r from rfl,Vh r h];rfl
 ·rw [List.concat_eq_append,Zy,yB,←List.append_assoc,Vi _ r h]
  simp
  omega
theorem Yb {ls:List (List UInt8)} {k:Nat} (h:k<ls.length):zk (ls.take (k+1))=zk (ls.take k)++ls[k]++[10]:=by
 have e:ls.take k++[ls[k]]=ls.take (k+1):=List.take_append_getElem h;rw [←e,Zy,yB,List.append_assoc]
theorem uG {ls:List (List UInt8)} {k:Nat} (h:k<ls.length):endB ls k<endB ls (k+1):=by
 unfold endB;rw [Yb h];simp
theorem xm {ls:List (List UInt8)} {j k:Nat} (h:j<k) (hk:k≤ls.length):endB ls j<endB ls k:=by
 induction k with
 | zero=>omega
 | succ k ih =>
  have b:=uG (ls:=ls) (k:=k) (by omega)
  by_cases hj:j=k
  ·rw [hj];exact b
  ·have:=ih (by omega) (by omega);omega
theorem Vj {ls:List (List UInt8)} {r out:List UInt8} (ho:out=zk ls++r) {k:Nat} (hk:k<ls.length):out.take (endB ls (k+1)-1)=zk (ls.take k)++ls[k]:=by
 have e:out=zk (ls.take k)++ls[k]++([10]++(zk (ls.drop (k+1))++r)):=by
  rw [ho]
  conv=>lhs;rw [←List.take_append_drop (k+1) ls]
  rw [Zy,Yb hk];simp
 have b:endB ls (k+1)-1=(zk (ls.take k)++ls[k]).length:=by unfold endB;rw [Yb hk];simp
 rw [b,e,List.take_left]
def zv:List (List UInt8)→List UInt8
 | []=>[]
 | [x]=>x
 | x::y::t=>x++[10]++zv (y::t)
theorem yC:∀(l:List (List UInt8)),l≠[]→zk l=zv l++[10]
 | [],h=>absurd rfl h
 | [x],_=>yB x
 | x::y::t,_=>by
  have b:=yC (y::t) (by simp)
  rw [show zk (x::y::t)=(x++[10])++zk (y::t) from rfl,b];simp [zv]
theorem xo (x r:List UInt8) (h:ZS x):Lib.index (x++[10]++r) [10]=(x.length:Int):=by
 refine Lib.index_first (i:=x.length) (by simp) ?_ ?_
 ·unfold Lib.occAt;simp
 ·intro j b
  unfold Lib.occAt
  have c:(x++[10]++r).drop j=x[j]::(x++[10]++r).drop (j+1):=by
   rw [List.drop_eq_getElem_cons (by simp;omega)]
   congr 1
   rw [List.getElem_append_left (by simp;omega),List.getElem_append_left b]
  rw [c];simp only [List.isPrefixOf]
  have:=h x[j] (List.getElem_mem b)
  simp [Ne.symm this]
theorem Xu (x:List UInt8) (h:ZS x):Lib.index x [10]=-1:=by
 refine Lib.index_none fun j hj=>?_
 unfold Lib.occAt
 by_cases hl:j<x.length
 ·rw [List.drop_eq_getElem_cons hl]
  have:=h x[j] (List.getElem_mem hl)
  simp only [List.isPrefixOf]
  simp [Ne.symm this]
 ·rw [List.drop_eq_nil_of_le (by omega)];rfl
theorem YW:∀(l:List (List UInt8)) (k:Nat),l.length=k+1→(∀s∈l,ZS s)→Lib.splitK [10] 0 k (zv l)=l
 | [],_,h,_=>by simp at h
 | [x],0,_,_=>rfl
 | [x],k+1,h,_=>by simp at h
 | x::y::t,0,h,_=>by simp at h
 | x::y::t,k+1,h,hn=>by
  have c:=YW (y::t) k (by simpa using h) fun s hs=>hn s (by simp [hs])
  have b:=xo x (zv (y::t)) (hn x (by simp))
  rw [show zv (x::y::t)=x++[10]++zv (y::t) from rfl]
  unfold Lib.splitK
  rw [if_neg (by rw [b,beq_iff_eq];omega),b]
  have e:(x++[10]++zv (y::t)).take ((x.length:Int).toNat+0)=x:=by
   rw [List.append_assoc];simp
  have m:(x++[10]++zv (y::t)).drop ((x.length:Int).toNat+[(10:UInt8)].length)=zv (y::t):=by
   have:(x.length:Int).toNat+[(10:UInt8)].length=(x++[10]).length:=by simp
   rw [this,List.drop_left]
  rw [e,m,c]
theorem YX:∀(l:List (List UInt8)),l≠[]→(∀s∈l,ZS s)→Lib.count (zv l) [10]+1=l.length
 | [],h,_=>absurd rfl h
 | [x],_,hn=>by
  rw [show zv [x]=x from rfl,Lib.count_miss (Xu x (hn x (by simp)))];rfl
 | x::y::t,_,hn=>by
  have c:=YX (y::t) (by simp) fun s hs=>hn s (by simp [hs])
  have b:=xo x (zv (y::t)) (hn x (by simp))
  rw [show zv (x::y::t)=x++[10]++zv (y::t) from rfl,Lib.count_hit (by simp) b]
  have e:(x++[10]++zv (y::t)).drop (x.length+[(10:UInt8)].length)=zv (y::t):=by
   have:x.length+[(10:UInt8)].length=(x++[10]).length:=by simp
   rw [this,List.drop_left]
  rw [e];simp only [List.length_cons] at c ⊢;omega
theorem Xv (l:List (List UInt8)) (h:l≠[]) (hn:∀s∈l,ZS s):Lib.splitB (za [10]) 0 (Lib.countB (za (zv l)) (za [10])) (za (zv l))=l.map za∧Lib.countB (za (zv l)) (za [10])+1=l.length:=by
 have b:Lib.countB (za (zv l)) (za [10])+1=l.length:=YX l h hn;obtain ⟨k,o⟩:∃k,k=Lib.countB (za (zv l)) (za [10]):=⟨_,rfl⟩;rw [←o] at b ⊢;refine ⟨?_,b⟩;have c:=Lib.splitB_data (za [10]) 0 k (za (zv l));have e:(za (zv l)).data.toList=zv l:=rfl;have q:(za [10]).data.toList=[10]:=rfl;rw [e,q,YW l k b.symm hn] at c
 have u:∀(m:List ByteArray),(m.map (·.data.toList)).map za=m:=by
  intro m
  induction m with
  | nil=>rfl
  | cons a t ih =>
   simp only [List.map_cons,List.cons.injEq];exact ⟨trivial,ih⟩
 rw [←u (Lib.splitB (za [10]) 0 k (za (zv l))),c]
end Go.Proofs.YtbjndgachcdbcaaGreatDoor
