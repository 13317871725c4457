import Derived.Test.YtbjndgachcdbcaaGreatDoorMC17
namespace Go.Proofs.YtbjndgachcdbcaaGreatDoor
open Go.RowKit Go.Shelf
theorem V3 (u:Nat):∀c∈Lib.decDigits u,zA c.toNat=true:=by
 induction u using Nat.strongRecOn with
 | _ u ih =>
  have e:∀d:Nat,d<10→zA (UInt8.ofNat (48+d)).toNat=true:=by decide
  intro c b;rw [Lib.decDigits] at b
  by_cases h:u<10
  ·rw [dif_pos h,List.mem_singleton] at b
   rw [b];exact e u h
  ·rw [dif_neg h,List.mem_append,List.mem_singleton] at b
   rcases b with b | b
   ·exact ih (u / 10) (by omega) c b
   ·rw [b];exact e (u % 10) (by omega)
theorem uL (u:Nat):Lib.decDigits u≠[]:=by
 intro h
 have:=congrArg List.length h
 rw [Lib.decDigits_length,List.length_nil] at this
 have:=Lib.nDigits_pos u
 omega
theorem Vm (n:Int):∃c t,Lib.itoa n=c::t∧(c=45↔n<0):=by
 unfold Lib.itoa
 split
 ·rename_i h
  exact ⟨45,_,rfl,by simp [h]⟩
 ·rename_i h
  cases hd:Lib.decDigits n.toNat with
  | nil=>exact absurd hd (uL _)
  | cons c t =>
   refine ⟨c,t,rfl,?_⟩;have b:=V3 n.toNat c (by rw [hd];exact List.mem_cons_self)
   constructor
   ·intro e
    subst e
    simp [zA] at b
   ·intro e;exact absurd e h
theorem ZO (n:Int) (h0:-9223372036854775808≤n) (h1:n≤9223372036854775807):(Lib.itoa n).length≤30:=by
 have:=Yx 2 n [] h0 h1
 rw [show YE 2 n []=Lib.itoa n from rfl] at this
 simpa using this
theorem Uk (f:Vl→List UInt8) (o:Ob):Uh f o≠[]:=by
 unfold Uh
 intro e
 have:=congrArg List.length e
 simp only [List.length_append,List.length_nil] at this
 split at this <;> simp at this
theorem uM {os:List Ob} {v:Vl} {d:Nat} (h:rightV v os.length=true):zH os d v≠[]:=by
 rw [xm];obtain ⟨k,n,s⟩:=v
 unfold zV
 simp only
 split
 ·obtain ⟨c,t,e,-⟩:=Vm n
  rw [e];simp
 ·split
  ·split <;> simp [xl,yY]
  ·split
   ·rename_i o m b
    subst b
    simp [rightV] at h
    unfold Xj
    rw [if_pos h.2]
    simp [YE,yV]
   ·split
    ·cases d with
     | zero=>simp [yA,zM]
     | succ d=>exact Uk _ _
    ·simp [Yj]
theorem Vn (os:List Ob) (v:Vl):(Zi os v).length≤200:=by
 unfold Zi
 split
 ·split
  ·rw [List.length_append,List.length_take];simp [zM];omega
  ·omega
 ·simp
theorem V4 {os:List Ob} {v:Vl}:Zi os v=[]↔rightV v os.length=false:=by
 unfold Zi
 cases h:rightV v os.length with
 | false=>simp
 | true =>
  simp only [if_true,Bool.true_eq_false,iff_false]
  split
  ·simp [zM]
  ·exact uM h
end Go.Proofs.YtbjndgachcdbcaaGreatDoor
