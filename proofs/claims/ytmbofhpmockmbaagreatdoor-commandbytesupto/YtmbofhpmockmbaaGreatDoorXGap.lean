import Derived.Test.YtmbofhpmockmbaaGreatDoorMC8
namespace Go.Proofs.YtmbofhpmockmbaaGreatDoor
open Go.RowKit
set_option maxHeartbeats 16000000
set_option maxRecDepth 100000
def Za (p:Nat→Bool) (l:List UInt8):Nat:=(l.takeWhile fun c=>p c.toNat).length
theorem ye (p:Nat→Bool) (l:List UInt8):Za p l≤l.length:=by
 unfold Za
 exact (List.takeWhile_sublist _).length_le
def YZ (l:List UInt8):Bool:=Lib.hasPrefix l [47,47]
theorem VI {l:List UInt8} (h:YZ l=true):∃t,l=47::47::t:=by
 unfold YZ Lib.hasPrefix at h
 match l,h with
 | [],h=>simp at h
 | [a],h=>simp at h
 | a::b::t,h=>simp at h;exact ⟨t,by rw [←h.1,←h.2]⟩
theorem yM {l:List UInt8} (h:YZ l=true):2≤Za z8 l:=by
 obtain ⟨t,rfl⟩:=VI h
 unfold Za
 rw [List.takeWhile_cons_of_pos (by decide),List.takeWhile_cons_of_pos (by decide)]
 simp
def ZV (l:List UInt8):Nat :=
 if _h:YZ (l.drop (Za zy l))=true then
  Za zy l+(Za z8 (l.drop (Za zy l))+ZV ((l.drop (Za zy l)).drop (Za z8 (l.drop (Za zy l)))))
 else Za zy l
termination_by l.length
decreasing_by
 have:=yM ‹_›
 have h3:=ye z8 (l.drop (Za zy l));simp only [List.length_drop] at *;omega
def xw (r:List UInt8):Nat:=if YZ r=true then Za z8 r+ZV (r.drop (Za z8 r)) else 0
theorem v8 (l:List UInt8):ZV l=Za zy l+xw (l.drop (Za zy l)):=by
 rw [ZV]
 unfold xw
 by_cases h:YZ (l.drop (Za zy l))=true
 ·rw [dif_pos h,if_pos h]
 ·rw [dif_neg h,if_neg h];rfl
theorem Xc:∀(n:Nat) (l:List UInt8),l.length≤n→ZV l≤l.length
 | n,l,hn=>by
  rw [ZV];have o:=ye zy l
  by_cases h:YZ (l.drop (Za zy l))=true
  ·rw [dif_pos h]
   have z:=yM h;have y:=ye z8 (l.drop (Za zy l));rw [List.length_drop] at y;have e:=Xc (n-1) ((l.drop (Za zy l)).drop (Za z8 (l.drop (Za zy l)))) (by simp only [List.length_drop];omega)
   simp only [List.length_drop] at e;omega
  ·rw [dif_neg h];exact o
termination_by _ l=>l.length
decreasing_by
 have:=yM ‹_›
 have h3:=ye z8 (l.drop (Za zy l));simp only [List.length_drop] at *;omega
theorem Uf (l:List UInt8) (w:World) (hl:l.length≤9223372036854775000) :
  Calls Tryz.prog 139 #[.string (za l)] w fun e w'=>e=.returned (.int .i64 (ZV l))∧w=w':=by
 obtain ⟨G,A⟩:∃G,G=ZV l:=⟨_,rfl⟩;have aa:G≤l.length:=by rw [A];exact Xc _ l (Nat.le_refl _)
 have M:=ye zy l;have W:Hid (G=Za zy l+xw (l.drop (Za zy l))):=show G=_ by rw [A];exact v8 l
 have y:Hid (∀a,a≤l.length→∀wx,(Instr.slice 9 (.string (za l)) (some (.int .i64 (a:Int))) none none).run Tryz.prog wx=.ok (.string (za (l.drop a))) wx):=fun a h wx=>yK wx l a h
 rw [←A];clear A
 go_enter Tryz.func139,Tryz.ntmps139
 go_wp2_with fail
 have L:=xM l w hl;rw [show (l.takeWhile fun c=>zy c.toNat).length=Za zy l from rfl] at L
 refine L.mono ?_;clear L;rintro e J ⟨rfl,rfl⟩;go_wp2_with fail
 go_loop [3] (fun v=>∃a:Nat,a≤l.length∧v=.int .i64 a∧G=a+xw (l.drop a)) (fun v=>l.length-(intOf v).toNat)
 case atStart=>exact ⟨_,M,rfl,W.out⟩
 case round =>
  obtain ⟨a,Z,rfl,o⟩:=hrel;have z:Hid (G=a+xw (l.drop a)):=o;have Y:=y.out a Z;clear o;have I:=Tryz.strings_HasPrefix (za (l.drop a)) ⟨#[47,47]⟩ w;rw [show Lib.hasPrefix (za (l.drop a)).data.toList (⟨#[47,47]⟩:ByteArray).data.toList=YZ (l.drop a) from rfl] at I
  go_wp2_with fail
  refine I.mono ?_;clear I;rintro e J ⟨rfl,rfl⟩;cases hr:YZ (l.drop a) with
  | false =>
   have N:G=a:=by rw [z.out];unfold xw;rw [hr];rfl
   subst N;go_wp2
   go_ret
   exact ⟨rfl,rfl⟩
  | true =>
   have R:=yM hr;have Q:=ye z8 (l.drop a);rw [List.length_drop] at Q;obtain ⟨m,D⟩:∃m,m=Za z8 (l.drop a):=⟨_,rfl⟩;rw [←D] at R Q;have K:=VF (l.drop a) J (by rw [List.length_drop];omega)
   rw [show ((l.drop a).takeWhile fun c=>z8 c.toNat).length=Za z8 (l.drop a) from rfl,←D] at K
   have O:=y.out (a+m) (by omega)
   rw [Int.natCast_add] at O;obtain ⟨b,E⟩:∃b,b=Za zy (l.drop (a+m)):=⟨_,rfl⟩;have U:=ye zy (l.drop (a+m));rw [←E,List.length_drop] at U;have H:=xM (l.drop (a+m)) J (by rw [List.length_drop];omega)
   rw [show ((l.drop (a+m)).takeWhile fun c=>zy c.toNat).length=Za zy (l.drop (a+m)) from rfl,←E] at H
   have V:Hid (G=a+m+b+xw (l.drop (a+m+b))):=show G=a+m+b+xw (l.drop (a+m+b)) by
    rw [z.out];have X:xw (l.drop a)=m+ZV ((l.drop a).drop m):=by unfold xw;rw [if_pos hr,←D]
    rw [X,List.drop_drop,v8,←E,List.drop_drop];omega
   clear D E;go_wp2_with fail
   refine K.mono ?_;clear K;rintro e T ⟨rfl,rfl⟩;go_wp2_with fail
   refine H.mono ?_;clear H;rintro e T ⟨rfl,rfl⟩;go_wp2
   refine ⟨⟨a+m+b,by omega,by go_num,V.out⟩,by simp [intOf];omega⟩
end Go.Proofs.YtmbofhpmockmbaaGreatDoor
