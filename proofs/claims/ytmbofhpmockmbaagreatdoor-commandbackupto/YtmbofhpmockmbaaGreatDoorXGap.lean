import Derived.Test.YtmbofhpmockmbaaGreatDoorMC7
namespace Go.Proofs.YtmbofhpmockmbaaGreatDoor
open Go.RowKit
set_option maxHeartbeats 16000000
set_option maxRecDepth 100000
def zW (p:Nat→Bool) (l:List UInt8):Nat:=(l.takeWhile fun c=>p c.toNat).length
theorem ZU (p:Nat→Bool) (l:List UInt8):zW p l≤l.length:=by
 unfold zW
 exact (List.takeWhile_sublist _).length_le
def Yh (l:List UInt8):Bool:=Lib.hasPrefix l [47,47]
theorem ve {l:List UInt8} (h:Yh l=true):∃t,l=47::47::t:=by
 unfold Yh Lib.hasPrefix at h
 match l,h with
 | [],h=>simp at h
 | [a],h=>simp at h
 | a::b::t,h=>simp at h;exact ⟨t,by rw [←h.1,←h.2]⟩
theorem ym {l:List UInt8} (h:Yh l=true):2≤zW zV l:=by
 obtain ⟨t,rfl⟩:=ve h
 unfold zW
 rw [List.takeWhile_cons_of_pos (by decide),List.takeWhile_cons_of_pos (by decide)]
 simp
def ZF (l:List UInt8):Nat :=
 if _h:Yh (l.drop (zW zv l))=true then
  zW zv l+(zW zV (l.drop (zW zv l))+ZF ((l.drop (zW zv l)).drop (zW zV (l.drop (zW zv l)))))
 else zW zv l
termination_by l.length
decreasing_by
 have:=ym ‹_›
 have h3:=ZU zV (l.drop (zW zv l));simp only [List.length_drop] at *;omega
def YE (r:List UInt8):Nat:=if Yh r=true then zW zV r+ZF (r.drop (zW zV r)) else 0
theorem XJ (l:List UInt8):ZF l=zW zv l+YE (l.drop (zW zv l)):=by
 rw [ZF]
 unfold YE
 by_cases h:Yh (l.drop (zW zv l))=true
 ·rw [dif_pos h,if_pos h]
 ·rw [dif_neg h,if_neg h];rfl
theorem xe:∀(n:Nat) (l:List UInt8),l.length≤n→ZF l≤l.length
 | n,l,hn=>by
  rw [ZF];have o:=ZU zv l
  by_cases h:Yh (l.drop (zW zv l))=true
  ·rw [dif_pos h]
   have y:=ym h;have x:=ZU zV (l.drop (zW zv l));rw [List.length_drop] at x;have e:=xe (n-1) ((l.drop (zW zv l)).drop (zW zV (l.drop (zW zv l)))) (by simp only [List.length_drop];omega)
   simp only [List.length_drop] at e;omega
  ·rw [dif_neg h];exact o
termination_by _ l=>l.length
decreasing_by
 have:=ym ‹_›
 have h3:=ZU zV (l.drop (zW zv l));simp only [List.length_drop] at *;omega
theorem Vs (l:List UInt8) (w:World) (hl:l.length≤9223372036854775000) :
  Calls Tryz.prog 139 #[.string (za l)] w fun e w'=>e=.returned (.int .i64 (ZF l))∧w=w':=by
 obtain ⟨G,A⟩:∃G,G=ZF l:=⟨_,rfl⟩;have W:G≤l.length:=by rw [A];exact xe _ l (Nat.le_refl _)
 have M:=ZU zv l;have S:Hid (G=zW zv l+YE (l.drop (zW zv l))):=show G=_ by rw [A];exact XJ l
 have o:Hid (∀a,a≤l.length→∀wx,(Instr.slice 9 (.string (za l)) (some (.int .i64 (a:Int))) none none).run Tryz.prog wx=.ok (.string (za (l.drop a))) wx):=fun a h wx=>yi wx l a h
 rw [←A];clear A
 go_enter Tryz.func139,Tryz.ntmps139
 go_wp2_with fail
 have L:=YS l w hl;rw [show (l.takeWhile fun c=>zv c.toNat).length=zW zv l from rfl] at L
 refine L.mono ?_;clear L;rintro e E ⟨rfl,rfl⟩;go_wp2_with fail
 go_loop [3] (fun v=>∃a:Nat,a≤l.length∧v=.int .i64 a∧G=a+YE (l.drop a)) (fun v=>l.length-(intOf v).toNat)
 case atStart=>exact ⟨_,M,rfl,S.out⟩
 case round =>
  obtain ⟨a,X,rfl,x⟩:=hrel;have y:Hid (G=a+YE (l.drop a)):=x;have T:=o.out a X;clear x;have J:=Tryz.strings_HasPrefix (za (l.drop a)) ⟨#[47,47]⟩ w;rw [show Lib.hasPrefix (za (l.drop a)).data.toList (⟨#[47,47]⟩:ByteArray).data.toList=Yh (l.drop a) from rfl] at J
  go_wp2_with fail
  refine J.mono ?_;clear J;rintro e E ⟨rfl,rfl⟩;cases hr:Yh (l.drop a) with
  | false =>
   have H:G=a:=by rw [y.out];unfold YE;rw [hr];rfl
   subst H;go_wp2
   go_ret
   exact ⟨rfl,rfl⟩
  | true =>
   have U:=ym hr;have O:=ZU zV (l.drop a);rw [List.length_drop] at O;obtain ⟨m,D⟩:∃m,m=zW zV (l.drop a):=⟨_,rfl⟩;rw [←D] at U O;have N:=X8 (l.drop a) E (by rw [List.length_drop];omega)
   rw [show ((l.drop a).takeWhile fun c=>zV c.toNat).length=zW zV (l.drop a) from rfl,←D] at N
   have I:=o.out (a+m) (by omega)
   rw [Int.natCast_add] at I;obtain ⟨b,z⟩:∃b,b=zW zv (l.drop (a+m)):=⟨_,rfl⟩;have R:=ZU zv (l.drop (a+m));rw [←z,List.length_drop] at R;have K:=YS (l.drop (a+m)) E (by rw [List.length_drop];omega)
   rw [show ((l.drop (a+m)).takeWhile fun c=>zv c.toNat).length=zW zv (l.drop (a+m)) from rfl,←z] at K
   have Q:Hid (G=a+m+b+YE (l.drop (a+m+b))):=show G=a+m+b+YE (l.drop (a+m+b)) by
    rw [y.out];have V:YE (l.drop a)=m+ZF ((l.drop a).drop m):=by unfold YE;rw [if_pos hr,←D]
    rw [V,List.drop_drop,XJ,←z,List.drop_drop];omega
   clear D z;go_wp2_with fail
   refine N.mono ?_;clear N;rintro e Y ⟨rfl,rfl⟩;go_wp2_with fail
   refine K.mono ?_;clear K;rintro e Y ⟨rfl,rfl⟩;go_wp2
   refine ⟨⟨a+m+b,by omega,by go_num,Q.out⟩,by simp [intOf];omega⟩
end Go.Proofs.YtmbofhpmockmbaaGreatDoor
