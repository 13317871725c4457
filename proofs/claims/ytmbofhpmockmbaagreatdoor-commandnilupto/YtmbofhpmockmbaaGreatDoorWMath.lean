import Derived.Test.YtmbofhpmockmbaaGreatDoorWAll
namespace Go.Proofs.YtmbofhpmockmbaaGreatDoor
open Go.RowKit
theorem UT {a:Nat} (h:a<256):(a.toUInt8).toNat=a:=Lib.toUInt8_toNat h
theorem uT:(128:Nat) ^ 9=9223372036854775808:=by decide
theorem Xt (rest:List UInt8):∀(m y i acc:Nat),y≤m→i≤9→y*128 ^ i<18446744073709551616→(0<i→0<y) →
  Zo i acc (Lib.uvarint y++rest)=(acc+y*128 ^ i,i+(Lib.uvarint y).length,0)
 | m,y,i,acc,hm,hi,hy,h0=>by
  by_cases hs:y<128
  ·rw [Lib.uvarint_small hs,List.cons_append]
   unfold Zo
   rw [UT (by omega)]
   have A:¬ ((0<i∧y=0)∨(i=9∧y≠1)):=by
    intro h;rcases h with ⟨D,E⟩ | ⟨rfl,E⟩
    ·have:=h0 D;omega
    ·have D:=h0 (by decide)
     rw [uT] at hy;omega
   rw [if_neg A,if_pos hs,Nat.mod_eq_of_lt hs]
   rfl
  ·match m with
   | 0=>omega
   | m+1 =>
    have G:i≠9:=by
     intro h;subst h;rw [uT] at hy;omega
    have z:(y % 128+128).toUInt8.toNat=y % 128+128:=UT (by omega)
    have A:¬ ((0<i∧(y % 128+128).toUInt8.toNat=0)∨(i=9∧(y % 128+128).toUInt8.toNat≠1)):=by rw [z];omega
    have H:y / 128*128 ^ (i+1)+y % 128*128 ^ i=y*128 ^ i:=by
     rw [Nat.pow_succ,Nat.mul_comm (128 ^ i) 128,←Nat.mul_assoc,←Nat.add_mul]
     congr 1
     omega
    have I:=Xt rest m (y / 128) (i+1) (acc+y % 128*128 ^ i) (by omega) (by omega) (by omega) (fun _=>by omega)
    rw [Lib.uvarint_big (by omega),List.cons_append]
    conv=>lhs;unfold Zo
    have o:(y % 128+128) % 128=y % 128:=by omega
    rw [if_neg A,if_neg (by rw [z];omega),z,o,I]
    refine Prod.ext ?_ (Prod.ext ?_ rfl)
    ·show acc+y % 128*128 ^ i+y / 128*128 ^ (i+1)=acc+y*128 ^ i
     omega
    ·show i+1+(Lib.uvarint (y / 128)).length=i+((Lib.uvarint (y / 128)).length+1)
     omega
theorem Up {n:Int}:Lib.unzigzag (Lib.zigzag n)=n:=by
 unfold Lib.zigzag
 split
 ·unfold Lib.unzigzag;rw [if_pos (by omega)];omega
 ·unfold Lib.unzigzag;rw [if_neg (by omega)];omega
theorem V3 {n:Int} (h0:-9223372036854775808≤n) (h1:n≤9223372036854775807) (rest:List UInt8):zS (Zg n++rest)=(n,(Zg n).length,0):=by
 have y:=Lib.zigzag_lt h0 h1;have h:=Xt rest (Lib.zigzag n) (Lib.zigzag n) 0 0 (Nat.le_refl _) (by decide) (by simpa using y) (by simp)
 have o:Zo 0 0 (Zg n++rest)=(Lib.zigzag n,(Zg n).length,0):=by
  unfold Zg
  rw [h]
  simp
 rw [vA o,Up]
end Go.Proofs.YtmbofhpmockmbaaGreatDoor
