import Derived.Test.YtbjndgachcdbcaaGreatDoorMC17
namespace Go.Proofs.YtbjndgachcdbcaaGreatDoor
open Go.RowKit Go.Shelf
theorem VU (u:Nat):∀c∈Lib.decDigits u,zC c.toNat=true:=by
 induction u using Nat.strongRecOn with
 | _ u ih =>
  have e:∀d:Nat,d<10→zC (UInt8.ofNat (48+d)).toNat=true:=by decide
  intro c b;rw [Lib.decDigits] at b
  by_cases h:u<10
  ·rw [dif_pos h,List.mem_singleton] at b
   rw [b];exact e u h
  ·rw [dif_neg h,List.mem_append,List.mem_singleton] at b
   rcases b with b | b
   ·exact ih (u / 10) (by omega) c b
   ·rw [b];exact e (u % 10) (by omega)
theorem uE (u:Nat):Lib.decDigits u≠[]:=by
 intro h
 have:=congrArg List.length h
 rw [Lib.decDigits_length,List.length_nil] at this
 have:=Lib.nDigits_pos u
 omega
theorem Vf (n:Int):∃c t,Lib.itoa n=c::t∧(c=45↔n<0):=by
 unfold Lib.itoa
 split
 ·rename_i h
  exact ⟨45,_,rfl,by simp [h]⟩
 ·rename_i h
  cases hd:Lib.decDigits n.toNat with
  | nil=>exact absurd hd (uE _)
  | cons c t =>
   refine ⟨c,t,rfl,?_⟩;have b:=VU n.toNat c (by rw [hd];exact List.mem_cons_self)
   constructor
   ·intro e
    subst e
    simp [zC] at b
   ·intro e;exact absurd e h
theorem ZR (n:Int) (h0:-9223372036854775808≤n) (h1:n≤9223372036854775807):(Lib.itoa n).length≤30:=by
 have:=Yw 2 n [] h0 h1
 rw [show YE 2 n []=Lib.itoa n from rfl] at this
 simpa using this
theorem Ue (f:Vl→List UInt8) (o:Ob):Ub f o≠[]:=by
 unfold Ub
 intro e
 have:=congrArg List.length e
 simp only [List.length_append,List.length_nil] at this
 split at this <;> simp at this
theorem uF {os:List Ob} {v:Vl} {d:Nat} (h:rightV v os.length=true):zJ os d v≠[]:=by
 rw [xf];obtain ⟨k,n,s⟩:=v
 unfold zX
 simp only
 split
 ·obtain ⟨c,t,e,-⟩:=Vf n
  rw [e];simp
 ·split
  ·split <;> simp [xe,yX]
  ·split
   ·rename_i o m b
    subst b
    simp [rightV] at h
    unfold Xc
    rw [if_pos h.2]
    simp [YE,yU]
   ·split
    ·cases d with
     | zero=>simp [yw,zO]
     | succ d=>exact Ue _ _
    ·simp [Yi]
theorem Vg (os:List Ob) (v:Vl):(Zm os v).length≤200:=by
 unfold Zm
 split
 ·split
  ·rw [List.length_append,List.length_take];simp [zO];omega
  ·omega
 ·simp
theorem VV {os:List Ob} {v:Vl}:Zm os v=[]↔rightV v os.length=false:=by
 unfold Zm
 cases h:rightV v os.length with
 | false=>simp
 | true =>
  simp only [if_true,Bool.true_eq_false,iff_false]
  split
  ·simp [zO]
  ·exact uF h
end Go.Proofs.YtbjndgachcdbcaaGreatDoor
