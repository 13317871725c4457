import Derived.Test.YtmbofhpmockmbaaGreatDoorMC8
namespace Go.Proofs.YtmbofhpmockmbaaGreatDoor
open Go.RowKit
set_option maxHeartbeats 16000000
set_option maxRecDepth 100000
def Za (p:Nat→Bool) (l:List UInt8):Nat:=(l.takeWhile fun c=>p c.toNat).length
theorem ye (p:Nat→Bool) (l:List UInt8):Za p l≤l.length:=by
 unfold Za
 exact (List.takeWhile_sublist _).length_le
def YZ (l:List UInt8):Bool:=Lib.hasPrefix l [47,47]
theorem VI {l:List UInt8} (h:YZ l=true):∃t,l=47::47::t:=by
 unfold YZ Lib.hasPrefix at h
 match l,h with
 | [],h=>simp at h
 | [a],h=>simp at h
 | a::b::t,h=>simp at h;exact ⟨t,by rw [←h.1,←h.2]⟩
theorem yM {l:List UInt8} (h:YZ l=true):2≤Za z8 l:=by
 obtain ⟨t,rfl⟩:=VI h
 unfold Za
 rw [List.takeWhile_cons_of_pos (by decide),List.takeWhile_cons_of_pos (by decide)]
 simp
def ZV (l:List UInt8):Nat :=
 if _h:YZ (l.drop (Za zy l))=true then
  Za zy l+(Za z8 (l.drop (Za zy l))+ZV ((l.drop (Za zy l)).drop (Za z8 (l.drop (Za zy l)))))
 else Za zy l
termination_by l.length
decreasing_by
 have:=yM ‹_›
 have h3:=ye z8 (l.drop (Za zy l));simp only [List.length_drop] at *;omega
def xw (r:List UInt8):Nat:=if YZ r=true then Za z8 r+ZV (r.drop (Za z8 r)) else 0
theorem v8 (l:List UInt8):ZV l=Za zy l+xw (l.drop (Za zy l)):=by
 rw [ZV]
 unfold xw
 by_cases h:YZ (l.drop (Za zy l))=true
 ·rw [dif_pos h,if_pos h]
 ·rw [dif_neg h,if_neg h];rfl
theorem Xc:∀(n:Nat) (l:List UInt8),l.length≤n→ZV l≤l.length
 | n,l,hn=>by
  rw [ZV];have o:=ye zy l
  by_cases h:YZ (l.drop (Za zy l))=true
  ·rw [dif_pos h]
   have z:=yM h;have e:=ye z8 (l.drop (Za zy l));rw [List.length_drop] at e;have y:=Xc (n-1) ((l.drop (Za zy l)).drop (Za z8 (l.drop (Za zy l)))) (by simp only [List.length_drop];omega)
   simp only [List.length_drop] at y;omega
  ·rw [dif_neg h];exact o
termination_by _ l=>l.length
decreasing_by
 have:=yM ‹_›
 have h3:=ye z8 (l.drop (Za zy l));simp only [List.length_drop] at *;omega
theorem Ua (l:List UInt8) (w:World) (hl:l.length≤9223372036854775000) :
  Calls Tryz.prog 139 #[.string (za l)] w fun e w'=>e=.returned (.int .i64 (ZV l))∧w=w':=by
 obtain ⟨G,D⟩:∃G,G=ZV l:=⟨_,rfl⟩;have V:G≤l.length:=by rw [D];exact Xc _ l (Nat.le_refl _)
 have K:=ye zy l;have W:Hid (G=Za zy l+xw (l.drop (Za zy l))):=show G=_ by rw [D];exact v8 l
 have o:Hid (∀a,a≤l.length→∀wx,(Instr.slice 9 (.string (za l)) (some (.int .i64 (a:Int))) none none).run Tryz.prog wx=.ok (.string (za (l.drop a))) wx):=fun a h wx=>yK wx l a h
 rw [←D];clear D
 go_enter Tryz.func139,Tryz.ntmps139
 go_wp2_with fail
 have J:=xM l w hl;rw [show (l.takeWhile fun c=>zy c.toNat).length=Za zy l from rfl] at J
 refine J.mono ?_;clear J;rintro e N ⟨rfl,rfl⟩;go_wp2_with fail
 go_loop [3] (fun v=>∃a:Nat,a≤l.length∧v=.int .i64 a∧G=a+xw (l.drop a)) (fun v=>l.length-(intOf v).toNat)
 case atStart=>exact ⟨_,K,rfl,W.out⟩
 case round =>
  obtain ⟨a,T,rfl,z⟩:=hrel;have y:Hid (G=a+xw (l.drop a)):=z;have X:=o.out a T;clear z;have H:=Tryz.strings_HasPrefix (za (l.drop a)) ⟨#[47,47]⟩ w;rw [show Lib.hasPrefix (za (l.drop a)).data.toList (⟨#[47,47]⟩:ByteArray).data.toList=YZ (l.drop a) from rfl] at H
  go_wp2_with fail
  refine H.mono ?_;clear H;rintro e N ⟨rfl,rfl⟩;cases hr:YZ (l.drop a) with
  | false =>
   have I:G=a:=by rw [y.out];unfold xw;rw [hr];rfl
   subst I;go_wp2
   go_ret
   exact ⟨rfl,rfl⟩
  | true =>
   have Z:=yM hr;have Q:=ye z8 (l.drop a);rw [List.length_drop] at Q;obtain ⟨m,E⟩:∃m,m=Za z8 (l.drop a):=⟨_,rfl⟩;rw [←E] at Z Q;have L:=VF (l.drop a) N (by rw [List.length_drop];omega)
   rw [show ((l.drop a).takeWhile fun c=>z8 c.toNat).length=Za z8 (l.drop a) from rfl,←E] at L
   have O:=o.out (a+m) (by omega)
   rw [Int.natCast_add] at O;obtain ⟨b,A⟩:∃b,b=Za zy (l.drop (a+m)):=⟨_,rfl⟩;have Y:=ye zy (l.drop (a+m));rw [←A,List.length_drop] at Y;have M:=xM (l.drop (a+m)) N (by rw [List.length_drop];omega)
   rw [show ((l.drop (a+m)).takeWhile fun c=>zy c.toNat).length=Za zy (l.drop (a+m)) from rfl,←A] at M
   have HN:Hid (G=a+m+b+xw (l.drop (a+m+b))):=show G=a+m+b+xw (l.drop (a+m+b)) by
    rw [y.out];have U:xw (l.drop a)=m+ZV ((l.drop a).drop m):=by unfold xw;rw [if_pos hr,←E]
    rw [U,List.drop_drop,v8,←A,List.drop_drop];omega
   clear E A;go_wp2_with fail
   refine L.mono ?_;clear L;rintro e R ⟨rfl,rfl⟩;go_wp2_with fail
   refine M.mono ?_;clear M;rintro e R ⟨rfl,rfl⟩;go_wp2
   refine ⟨⟨a+m+b,by omega,by go_num,HN.out⟩,by simp [intOf];omega⟩
end Go.Proofs.YtmbofhpmockmbaaGreatDoor
