import Derived.Test.YtcphojjpapgblaaGreatDoorMC41
import Derived.Test.YtcphojjpapgblaaGreatDoorMC28
import Derived.Test.YtcphojjpapgblaaGreatDoorMC49
namespace Go.Proofs.YtcphojjpapgblaaGreatDoor
open Go.RowKit Go.Shelf
mutual
def gdS:St→Prop
 | .mk k s es body els _=>xg k s (yC es) body.length els.length=true∧(k=1→yr 1 0 s)∧gdL es∧ziH body∧ziH els
def ziH:List St→Prop
 | []=>True
 | x::xs=>gdS x∧ziH xs
end
theorem So.cat {l:List (Option (List UInt8))}:∀i,i≤l.length→(∀o∈l,So o)→So (yL l i)
 | 0,_,_=>So.s _
 | i+1,hi,h=>by
  unfold yL
  refine (So.cat i (by omega) h).then ?_
  rw [List.getElem?_eq_getElem (by omega)]
  exact h _ (List.getElem_mem ..)
theorem So.blk {f:Sz→Option (List UInt8)} {l:List St} (h:∀x∈l,So (f (uP x))):So (blkO f (yY l)):=by
 rw [zbm];refine (So.s _).then ((So.cat _ (by simp) fun o ho=>?_).then (So.s _))
 obtain ⟨y,A,rfl⟩:=List.mem_map.1 ho;obtain ⟨x,z,rfl⟩:=List.mem_map.1 A;exact h x z
mutual
theorem ziI (fl:Nat→Nat):∀x y:Ex,Xb fl x=Xb fl y→smE (XO x) (XO y)
 | .mk k s n kids line,.mk k' s' n' kids' line',h=>by
  rw [Xb,Xb] at h
  injection h with h1 h2 h3 h4 h5
  rw [XO,XO,smE];exact ⟨by rw [h1],h2,h3,zc2 fl kids kids' h4⟩
theorem zc2 (fl:Nat→Nat):∀l m:List Ex,YD fl l=YD fl m→qR (yC l) (yC m)
 | [],[],_=>by rw [yC,qR];trivial
 | [],y::ys,h=>by rw [YD,YD] at h;cases h
 | x::xs,[],h=>by rw [YD,YD] at h;cases h
 | x::xs,y::ys,h=>by
  rw [YD,YD] at h
  injection h with h1 h2
  rw [yC,yC,qR];exact ⟨ziI fl x y h1,zc2 fl xs ys h2⟩
end
mutual
theorem ziJ (fl:Nat→Nat):∀x y:St,V1 fl x=V1 fl y→smS (uP x) (uP y)
 | .mk k s es b c line,.mk k' s' es' b' c' line',h=>by
  rw [V1,V1] at h
  injection h with h1 h2 h3 h4 h5 h6
  rw [uP,uP,smS];exact ⟨by rw [h1],h2,zc2 fl es es' h3,zax fl b b' h4,zax fl c c' h5⟩
theorem zax (fl:Nat→Nat):∀l m:List St,yg fl l=yg fl m→xJ (yY l) (yY m)
 | [],[],_=>by rw [yY,xJ];trivial
 | [],y::ys,h=>by rw [yg,yg] at h;cases h
 | x::xs,[],h=>by rw [yg,yg] at h;cases h
 | x::xs,y::ys,h=>by
  rw [yg,yg] at h
  injection h with h1 h2
  rw [yY,yY,xJ];exact ⟨ziJ fl x y h1,zax fl xs ys h2⟩
end
mutual
theorem zjr:∀x:Ex,vF (XO x)=Xb (fun _=>0) x
 | .mk k s n kids line=>by rw [XO,vF,Xb,zgj kids];rfl
theorem zgj:∀l:List Ex,zzL (yC l)=YD (fun _=>0) l
 | []=>by rw [yC,zzL,YD]
 | x::xs=>by rw [yC,zzL,YD,zjr x,zgj xs]
end
mutual
theorem zjs:∀x:St,zzS (uP x)=V1 (fun _=>0) x
 | .mk k s es b c line=>by rw [uP,zzS,V1,zgk b,zgk c,←Uk,zgj es];rfl
theorem zgk:∀l:List St,Ul (yY l)=yg (fun _=>0) l
 | []=>by rw [yY,Ul,yg]
 | x::xs=>by rw [yY,Ul,yg,zjs x,zgk xs]
end
theorem VZ {fl fa:Nat→Nat} {us:List Tk} (h:us.map (Xa fl fa)=[eoT]):(zu us).k=0:=by
 cases us with
 | nil=>cases h
 | cons u us =>
  rw [List.map_cons] at h
  injection h with h1 h2
  have:=congrArg Tk.k h1
  exact this
end Go.Proofs.YtcphojjpapgblaaGreatDoor
