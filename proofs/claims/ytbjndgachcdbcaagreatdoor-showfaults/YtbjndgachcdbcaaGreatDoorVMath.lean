import Derived.Test.YtbjndgachcdbcaaGreatDoorVBase
namespace Go.Proofs.YtbjndgachcdbcaaGreatDoor
open Go.RowKit Go.Shelf
def yK (c:UInt8):UInt8:=if c<32∨126<c then 63 else c
def Zj (l:List UInt8):List UInt8:=l.map yK
def zB (l:List UInt8):List UInt8:=if 200<l.length then (Zj l).take 197++zS else Zj l
theorem Zh (l:List UInt8):(Zj l).length=l.length:=by simp [Zj]
def zs (l:List UInt8) (i:Nat):List UInt8:=Zj (l.take i)++l.drop i
theorem Xe (l:List UInt8) (i:Nat):(zs l i).length=l.length:=by
 unfold zs
 rw [List.length_append,Zh,←List.length_append,List.take_append_drop]
theorem Xf (l:List UInt8) (i:Nat) (h:i<l.length) (h':i<(zs l i).length):(zs l i)[i]=l[i]:=by
 have e:(zs l i)[i]?=some l[i]:=by
  unfold zs
  rw [List.getElem?_append_right (by rw [Zh,List.length_take];omega),Zh,List.length_take,Nat.min_eq_left (Nat.le_of_lt h),Nat.sub_self,List.getElem?_drop,Nat.add_zero,List.getElem?_eq_getElem h]
 rw [List.getElem?_eq_getElem h'] at e;exact Option.some.inj e
theorem YP (a b:List UInt8):Zj (a++b)=Zj a++Zj b:=by unfold Zj;rw [List.map_append]
theorem Ye (l:List UInt8) (i:Nat) (h:i<l.length) (c:UInt8) (hc:yK l[i]=c):(zs l i).set i c=zs l (i+1):=by
 unfold zs
 have e:l.take (i+1)=l.take i++[l[i]]:=(List.take_append_getElem h).symm;have d:l.drop i=l[i]::l.drop (i+1):=(List.getElem_cons_drop h).symm;rw [e,d,List.set_append_right _ _ (by rw [Zh,List.length_take];omega),Zh,List.length_take,Nat.min_eq_left (Nat.le_of_lt h),Nat.sub_self,List.set_cons_zero,YP,List.append_assoc]
 congr 1
 rw [←hc]
 rfl
theorem xF (l:List UInt8) (i:Nat) (h:i<l.length) (hc:yK l[i]=l[i]):zs l i=zs l (i+1):=by
 unfold zs
 have e:l.take (i+1)=l.take i++[l[i]]:=(List.take_append_getElem h).symm;have d:l.drop i=l[i]::l.drop (i+1):=(List.getElem_cons_drop h).symm;rw [e,d,YP,List.append_assoc]
 congr 1
 show _=[yK l[i]]++_
 rw [hc]
 rfl
theorem Xg (l:List UInt8):zs l l.length=Zj l:=by simp [zs]
end Go.Proofs.YtbjndgachcdbcaaGreatDoor
