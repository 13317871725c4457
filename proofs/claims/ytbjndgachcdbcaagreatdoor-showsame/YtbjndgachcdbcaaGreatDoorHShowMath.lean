import Derived.Test.YtbjndgachcdbcaaGreatDoorMC17
namespace Go.Proofs.YtbjndgachcdbcaaGreatDoor
open Go.RowKit Go.Shelf
theorem uy (u:Nat):∀c∈Lib.decDigits u,zF c.toNat=true:=by
 induction u using Nat.strongRecOn with
 | _ u ih =>
  have e:∀d:Nat,d<10→zF (UInt8.ofNat (48+d)).toNat=true:=by decide
  intro c b;rw [Lib.decDigits] at b
  by_cases h:u<10
  ·rw [dif_pos h,List.mem_singleton] at b
   rw [b];exact e u h
  ·rw [dif_neg h,List.mem_append,List.mem_singleton] at b
   rcases b with b | b
   ·exact ih (u / 10) (by omega) c b
   ·rw [b];exact e (u % 10) (by omega)
theorem Uk (u:Nat):Lib.decDigits u≠[]:=by
 intro h
 have:=congrArg List.length h
 rw [Lib.decDigits_length,List.length_nil] at this
 have:=Lib.nDigits_pos u
 omega
theorem VO (n:Int):∃c t,Lib.itoa n=c::t∧(c=45↔n<0):=by
 unfold Lib.itoa
 split
 ·rename_i h
  exact ⟨45,_,rfl,by simp [h]⟩
 ·rename_i h
  cases hd:Lib.decDigits n.toNat with
  | nil=>exact absurd hd (Uk _)
  | cons c t =>
   refine ⟨c,t,rfl,?_⟩;have b:=uy n.toNat c (by rw [hd];exact List.mem_cons_self)
   constructor
   ·intro e
    subst e
    simp [zF] at b
   ·intro e;exact absurd e h
theorem Z0 (n:Int) (h0:-9223372036854775808≤n) (h1:n≤9223372036854775807):(Lib.itoa n).length≤30:=by
 have:=YG 2 n [] h0 h1
 rw [show YN 2 n []=Lib.itoa n from rfl] at this
 simpa using this
theorem UH (f:Vl→List UInt8) (o:Ob):Uw f o≠[]:=by
 unfold Uw
 intro e
 have:=congrArg List.length e
 simp only [List.length_append,List.length_nil] at this
 split at this <;> simp at this
theorem Ul {os:List Ob} {v:Vl} {d:Nat} (h:rightV v os.length=true):zy os d v≠[]:=by
 rw [xz];obtain ⟨k,n,s⟩:=v
 unfold zX
 simp only
 split
 ·obtain ⟨c,t,e,-⟩:=VO n
  rw [e];simp
 ·split
  ·split <;> simp [xy,y5]
  ·split
   ·rename_i o m b
    subst b
    simp [rightV] at h
    unfold Xy
    rw [if_pos h.2]
    simp [YN,yY]
   ·split
    ·cases d with
     | zero=>simp [yD,z8]
     | succ d=>exact UH _ _
    ·simp [Yq]
theorem VP (os:List Ob) (v:Vl):(Za os v).length≤200:=by
 unfold Za
 split
 ·split
  ·rw [List.length_append,List.length_take];simp [z8];omega
  ·omega
 ·simp
theorem uz {os:List Ob} {v:Vl}:Za os v=[]↔rightV v os.length=false:=by
 unfold Za
 cases h:rightV v os.length with
 | false=>simp
 | true =>
  simp only [if_true,Bool.true_eq_false,iff_false]
  split
  ·simp [z8]
  ·exact Ul h
end Go.Proofs.YtbjndgachcdbcaaGreatDoor
