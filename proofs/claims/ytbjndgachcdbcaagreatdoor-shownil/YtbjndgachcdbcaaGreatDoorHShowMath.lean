import Derived.Test.YtbjndgachcdbcaaGreatDoorHShow2
namespace Go.Proofs.YtbjndgachcdbcaaGreatDoor
open Go.RowKit Go.Shelf
theorem Vh (u:Nat):∀c∈Lib.decDigits u,zz c.toNat=true:=by
 induction u using Nat.strongRecOn with
 | _ u ih =>
  have e:∀d:Nat,d<10→zz (UInt8.ofNat (48+d)).toNat=true:=by decide
  intro c b;rw [Lib.decDigits] at b
  by_cases h:u<10
  ·rw [dif_pos h,List.mem_singleton] at b
   rw [b];exact e u h
  ·rw [dif_neg h,List.mem_append,List.mem_singleton] at b
   rcases b with b | b
   ·exact ih (u / 10) (by omega) c b
   ·rw [b];exact e (u % 10) (by omega)
theorem VS (u:Nat):Lib.decDigits u≠[]:=by
 intro h
 have:=congrArg List.length h
 rw [Lib.decDigits_length,List.length_nil] at this
 have:=Lib.nDigits_pos u
 omega
theorem vx (n:Int):∃c t,Lib.itoa n=c::t∧(c=45↔n<0):=by
 unfold Lib.itoa
 split
 ·rename_i h
  exact ⟨45,_,rfl,by simp [h]⟩
 ·rename_i h
  cases hd:Lib.decDigits n.toNat with
  | nil=>exact absurd hd (VS _)
  | cons c t =>
   refine ⟨c,t,rfl,?_⟩;have b:=Vh n.toNat c (by rw [hd];exact List.mem_cons_self)
   constructor
   ·intro e
    subst e
    simp [zz] at b
   ·intro e;exact absurd e h
theorem ZK (n:Int) (h0:-9223372036854775808≤n) (h1:n≤9223372036854775807):(Lib.itoa n).length≤30:=by
 have:=y6 2 n [] h0 h1
 rw [show Ye 2 n []=Lib.itoa n from rfl] at this
 simpa using this
theorem ue (f:Vl→List UInt8) (o:Ob):uc f o≠[]:=by
 unfold uc
 intro e
 have:=congrArg List.length e
 simp only [List.length_append,List.length_nil] at this
 split at this <;> simp at this
theorem VT {os:List Ob} {v:Vl} {d:Nat} (h:zb v os.length=true):zH os d v≠[]:=by
 rw [YX];obtain ⟨k,n,s⟩:=v
 unfold zT
 simp only
 split
 ·obtain ⟨c,t,e,-⟩:=vx n
  rw [e];simp
 ·split
  ·split <;> simp [YW,yy]
  ·split
   ·rename_i m o b
    subst b
    simp [zb] at h
    unfold xH
    rw [if_pos h.2]
    simp [Ye,yx]
   ·split
    ·cases d with
     | zero=>simp [ye,zS]
     | succ d=>exact ue _ _
    ·simp [yQ]
theorem vy (os:List Ob) (v:Vl):(Ze os v).length≤200:=by
 unfold Ze
 split
 ·split
  ·rw [List.length_append,List.length_take];simp [zS];omega
  ·omega
 ·simp
theorem Vi {os:List Ob} {v:Vl}:Ze os v=[]↔zb v os.length=false:=by
 unfold Ze
 cases h:zb v os.length with
 | false=>simp
 | true =>
  simp only [if_true,Bool.true_eq_false,iff_false]
  split
  ·simp [zS]
  ·exact VT h
end Go.Proofs.YtbjndgachcdbcaaGreatDoor
