import Derived.Test.YtbjndgachcdbcaaGreatDoorVBase
namespace Go.Proofs.YtbjndgachcdbcaaGreatDoor
open Go.RowKit Go.Shelf
def yR (c:UInt8):UInt8:=if c<32∨126<c then 63 else c
def Zl (l:List UInt8):List UInt8:=l.map yR
def zB (l:List UInt8):List UInt8:=if 200<l.length then (Zl l).take 197++zS else Zl l
theorem Zi (l:List UInt8):(Zl l).length=l.length:=by simp [Zl]
def zt (l:List UInt8) (i:Nat):List UInt8:=Zl (l.take i)++l.drop i
theorem Xv (l:List UInt8) (i:Nat):(zt l i).length=l.length:=by
 unfold zt
 rw [List.length_append,Zi,←List.length_append,List.take_append_drop]
theorem Xw (l:List UInt8) (i:Nat) (h:i<l.length) (h':i<(zt l i).length):(zt l i)[i]=l[i]:=by
 have e:(zt l i)[i]?=some l[i]:=by
  unfold zt
  rw [List.getElem?_append_right (by rw [Zi,List.length_take];omega),Zi,List.length_take,Nat.min_eq_left (Nat.le_of_lt h),Nat.sub_self,List.getElem?_drop,Nat.add_zero,List.getElem?_eq_getElem h]
 rw [List.getElem?_eq_getElem h'] at e;exact Option.some.inj e
theorem YZ (a b:List UInt8):Zl (a++b)=Zl a++Zl b:=by unfold Zl;rw [List.map_append]
theorem Yq (l:List UInt8) (i:Nat) (h:i<l.length) (c:UInt8) (hc:yR l[i]=c):(zt l i).set i c=zt l (i+1):=by
 unfold zt
 have e:l.take (i+1)=l.take i++[l[i]]:=(List.take_append_getElem h).symm;have d:l.drop i=l[i]::l.drop (i+1):=(List.getElem_cons_drop h).symm;rw [e,d,List.set_append_right _ _ (by rw [Zi,List.length_take];omega),Zi,List.length_take,Nat.min_eq_left (Nat.le_of_lt h),Nat.sub_self,List.set_cons_zero,YZ,List.append_assoc]
 congr 1
 rw [←hc]
 rfl
theorem xT (l:List UInt8) (i:Nat) (h:i<l.length) (hc:yR l[i]=l[i]):zt l i=zt l (i+1):=by
 unfold zt
 have e:l.take (i+1)=l.take i++[l[i]]:=(List.take_append_getElem h).symm;have d:l.drop i=l[i]::l.drop (i+1):=(List.getElem_cons_drop h).symm;rw [e,d,YZ,List.append_assoc]
 congr 1
 show _=[yR l[i]]++_
 rw [hc]
 rfl
theorem Xx (l:List UInt8):zt l l.length=Zl l:=by simp [zt]
end Go.Proofs.YtbjndgachcdbcaaGreatDoor
