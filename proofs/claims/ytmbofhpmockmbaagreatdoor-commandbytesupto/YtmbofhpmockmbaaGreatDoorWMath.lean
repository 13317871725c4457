import Derived.Test.YtmbofhpmockmbaaGreatDoorWAll
namespace Go.Proofs.YtmbofhpmockmbaaGreatDoor
open Go.RowKit
theorem qp {a:Nat} (h:a<256):(a.toUInt8).toNat=a:=Lib.toUInt8_toNat h
theorem Us:(128:Nat) ^ 9=9223372036854775808:=by decide
theorem XM (rest:List UInt8):∀(m y i acc:Nat),y≤m→i≤9→y*128 ^ i<18446744073709551616→(0<i→0<y) →
  Zs i acc (Lib.uvarint y++rest)=(acc+y*128 ^ i,i+(Lib.uvarint y).length,0)
 | m,y,i,acc,hm,hi,hy,h0=>by
  by_cases hs:y<128
  ·rw [Lib.uvarint_small hs,List.cons_append]
   unfold Zs
   rw [qp (by omega)]
   have o:¬ ((0<i∧y=0)∨(i=9∧y≠1)):=by
    intro h;rcases h with ⟨A,G⟩ | ⟨rfl,G⟩
    ·have:=h0 A;omega
    ·have A:=h0 (by decide)
     rw [Us] at hy;omega
   rw [if_neg o,if_pos hs,Nat.mod_eq_of_lt hs]
   rfl
  ·match m with
   | 0=>omega
   | m+1 =>
    have D:i≠9:=by
     intro h;subst h;rw [Us] at hy;omega
    have z:(y % 128+128).toUInt8.toNat=y % 128+128:=qp (by omega)
    have o:¬ ((0<i∧(y % 128+128).toUInt8.toNat=0)∨(i=9∧(y % 128+128).toUInt8.toNat≠1)):=by rw [z];omega
    have E:y / 128*128 ^ (i+1)+y % 128*128 ^ i=y*128 ^ i:=by
     rw [Nat.pow_succ,Nat.mul_comm (128 ^ i) 128,←Nat.mul_assoc,←Nat.add_mul]
     congr 1
     omega
    have H:=XM rest m (y / 128) (i+1) (acc+y % 128*128 ^ i) (by omega) (by omega) (by omega) (fun _=>by omega)
    rw [Lib.uvarint_big (by omega),List.cons_append]
    conv=>lhs;unfold Zs
    have e:(y % 128+128) % 128=y % 128:=by omega
    rw [if_neg o,if_neg (by rw [z];omega),z,e,H]
    refine Prod.ext ?_ (Prod.ext ?_ rfl)
    ·show acc+y % 128*128 ^ i+y / 128*128 ^ (i+1)=acc+y*128 ^ i
     omega
    ·show i+1+(Lib.uvarint (y / 128)).length=i+((Lib.uvarint (y / 128)).length+1)
     omega
theorem UU {n:Int}:Lib.unzigzag (Lib.zigzag n)=n:=by
 unfold Lib.zigzag
 split
 ·unfold Lib.unzigzag;rw [if_pos (by omega)];omega
 ·unfold Lib.unzigzag;rw [if_neg (by omega)];omega
theorem YW {n:Int} (h0:-9223372036854775808≤n) (h1:n≤9223372036854775807) (rest:List UInt8):z6 (zE n++rest)=(n,(zE n).length,0):=by
 have e:=Lib.zigzag_lt h0 h1;have h:=XM rest (Lib.zigzag n) (Lib.zigzag n) 0 0 (Nat.le_refl _) (by decide) (by simpa using e) (by simp)
 have o:Zs 0 0 (zE n++rest)=(Lib.zigzag n,(zE n).length,0):=by
  unfold zE
  rw [h]
  simp
 rw [vX o,UU]
theorem ux {n:Int} (h0:-9223372036854775808≤n) (h1:n≤9223372036854775807) (rest:List UInt8) (most:Int) :
  Zg (zE n++rest) most=if n<0 then (0,0,4) else if max most 0<n then (0,0,5) else (n,(zE n).length,0):=by
 unfold Zg
 rw [YW h0 h1 rest]
 simp
theorem uy (s:ByteArray) (rest:List UInt8) (most:Int) (hs:s.size≤9223372036854775807) :
  getT (Zq s++rest) most=if max most 0<(s.size:Int) then ([],0,5) else (s.data.toList,(Zq s).length,0):=by
 have e:Zg (Zq s++rest) most=if max most 0<(s.size:Int) then (0,0,5) else ((s.size:Int),(zE s.size).length,0):=by
  unfold Zq
  rw [List.append_assoc,ux (by omega) (by omega),if_neg (by omega)]
 unfold getT
 rw [e]
 by_cases h:max most 0<(s.size:Int)
 ·rw [if_pos h];simp [h]
 ·rw [if_neg h,if_neg h]
  have o:(Zq s++rest).length=(zE s.size).length+s.size+rest.length:=by
   unfold Zq;rw [List.length_append,List.length_append,Z7]
  simp only [ne_eq,not_true_eq_false,if_false,Int.toNat_natCast];rw [if_neg (by rw [o];omega)]
  refine Prod.ext ?_ (Prod.ext ?_ rfl)
  ·show ((Zq s++rest).drop (zE s.size).length).take s.size=s.data.toList
   unfold Zq
   rw [List.append_assoc,List.drop_left,←Z7 s,List.take_left]
  ·show (zE s.size).length+s.size=(Zq s).length
   unfold Zq;rw [List.length_append,Z7]
end Go.Proofs.YtmbofhpmockmbaaGreatDoor
