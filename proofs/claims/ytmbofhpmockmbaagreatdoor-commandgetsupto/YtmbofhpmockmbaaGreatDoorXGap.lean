import Derived.Test.YtmbofhpmockmbaaGreatDoorMC12
namespace Go.Proofs.YtmbofhpmockmbaaGreatDoor
open Go.RowKit
set_option maxHeartbeats 16000000
set_option maxRecDepth 100000
def Zh (p:Nat→Bool) (l:List UInt8):Nat:=(l.takeWhile fun c=>p c.toNat).length
theorem ym (p:Nat→Bool) (l:List UInt8):Zh p l≤l.length:=by
 unfold Zh
 exact (List.takeWhile_sublist _).length_le
def xw (l:List UInt8):Bool:=Lib.hasPrefix l [47,47]
theorem uk {l:List UInt8} (h:xw l=true):∃t,l=47::47::t:=by
 unfold xw Lib.hasPrefix at h
 match l,h with
 | [],h=>simp at h
 | [a],h=>simp at h
 | a::b::t,h=>simp at h;exact ⟨t,by rw [←h.1,←h.2]⟩
theorem yZ {l:List UInt8} (h:xw l=true):2≤Zh Zg l:=by
 obtain ⟨t,rfl⟩:=uk h
 unfold Zh
 rw [List.takeWhile_cons_of_pos (by decide),List.takeWhile_cons_of_pos (by decide)]
 simp
def Z7 (l:List UInt8):Nat :=
 if _h:xw (l.drop (Zh zz l))=true then
  Zh zz l+(Zh Zg (l.drop (Zh zz l))+Z7 ((l.drop (Zh zz l)).drop (Zh Zg (l.drop (Zh zz l)))))
 else Zh zz l
termination_by l.length
decreasing_by
 have:=yZ ‹_›
 have h3:=ym Zg (l.drop (Zh zz l));simp only [List.length_drop] at *;omega
def x6 (r:List UInt8):Nat:=if xw r=true then Zh Zg r+Z7 (r.drop (Zh Zg r)) else 0
theorem VK (l:List UInt8):Z7 l=Zh zz l+x6 (l.drop (Zh zz l)):=by
 rw [Z7]
 unfold x6
 by_cases h:xw (l.drop (Zh zz l))=true
 ·rw [dif_pos h,if_pos h]
 ·rw [dif_neg h,if_neg h];rfl
theorem XK:∀(n:Nat) (l:List UInt8),l.length≤n→Z7 l≤l.length
 | n,l,hn=>by
  rw [Z7];have z:=ym zz l
  by_cases h:xw (l.drop (Zh zz l))=true
  ·rw [dif_pos h]
   have A:=yZ h;have o:=ym Zg (l.drop (Zh zz l));rw [List.length_drop] at o;have y:=XK (n-1) ((l.drop (Zh zz l)).drop (Zh Zg (l.drop (Zh zz l)))) (by simp only [List.length_drop];omega)
   simp only [List.length_drop] at y;omega
  ·rw [dif_neg h];exact z
termination_by _ l=>l.length
decreasing_by
 have:=yZ ‹_›
 have h3:=ym Zg (l.drop (Zh zz l));simp only [List.length_drop] at *;omega
theorem UR (l:List UInt8) (w:World) (hl:l.length≤9223372036854775000) :
  Calls Tryz.prog 139 #[.string (za l)] w fun e w'=>e=.returned (.int .i64 (Z7 l))∧w=w':=by
 obtain ⟨G,E⟩:∃G,G=Z7 l:=⟨_,rfl⟩;have W:G≤l.length:=by rw [E];exact XK _ l (Nat.le_refl _)
 have H:=ym zz l;have Z:Hid (G=Zh zz l+x6 (l.drop (Zh zz l))):=show G=_ by rw [E];exact VK l
 have o:Hid (∀a,a≤l.length→∀wx,(Instr.slice 9 (.string (za l)) (some (.int .i64 (a:Int))) none none).run Tryz.prog wx=.ok (.string (za (l.drop a))) wx):=fun a h wx=>yW wx l a h
 rw [←E];clear E
 go_enter Tryz.func139,Tryz.ntmps139
 go_wp2_with fail
 have O:=Xo l w hl;rw [show (l.takeWhile fun c=>zz c.toNat).length=Zh zz l from rfl] at O
 refine O.mono ?_;clear O;rintro e J ⟨rfl,rfl⟩;go_wp2_with fail
 go_loop [3] (fun v=>∃a:Nat,a≤l.length∧v=.int .i64 a∧G=a+x6 (l.drop a)) (fun v=>l.length-(intOf v).toNat)
 case atStart=>exact ⟨_,H,rfl,Z.out⟩
 case round =>
  obtain ⟨a,ha,rfl,y⟩:=hrel;have z:Hid (G=a+x6 (l.drop a)):=y;have U:=o.out a ha;clear y;have Q:=Tryz.strings_HasPrefix (za (l.drop a)) ⟨#[47,47]⟩ w;rw [show Lib.hasPrefix (za (l.drop a)).data.toList (⟨#[47,47]⟩:ByteArray).data.toList=xw (l.drop a) from rfl] at Q
  go_wp2_with fail
  refine Q.mono ?_;clear Q;rintro e J ⟨rfl,rfl⟩;cases hr:xw (l.drop a) with
  | false =>
   have I:G=a:=by rw [z.out];unfold x6;rw [hr];rfl
   subst I;go_wp2
   go_ret
   exact ⟨rfl,rfl⟩
  | true =>
   have Y:=yZ hr;have R:=ym Zg (l.drop a);rw [List.length_drop] at R;obtain ⟨m,A⟩:∃m,m=Zh Zg (l.drop a):=⟨_,rfl⟩;rw [←A] at Y R;have L:=uf (l.drop a) J (by rw [List.length_drop];omega)
   rw [show ((l.drop a).takeWhile fun c=>Zg c.toNat).length=Zh Zg (l.drop a) from rfl,←A] at L
   have M:=o.out (a+m) (by omega)
   rw [Int.natCast_add] at M;obtain ⟨b,D⟩:∃b,b=Zh zz (l.drop (a+m)):=⟨_,rfl⟩;have X:=ym zz (l.drop (a+m));rw [←D,List.length_drop] at X;have K:=Xo (l.drop (a+m)) J (by rw [List.length_drop];omega)
   rw [show ((l.drop (a+m)).takeWhile fun c=>zz c.toNat).length=Zh zz (l.drop (a+m)) from rfl,←D] at K
   have T:Hid (G=a+m+b+x6 (l.drop (a+m+b))):=show G=a+m+b+x6 (l.drop (a+m+b)) by
    rw [z.out];have e1:x6 (l.drop a)=m+Z7 ((l.drop a).drop m):=by unfold x6;rw [if_pos hr,←A]
    rw [e1,List.drop_drop,VK,←D,List.drop_drop];omega
   clear A D;go_wp2_with fail
   refine L.mono ?_;clear L;rintro e V ⟨rfl,rfl⟩;go_wp2_with fail
   refine K.mono ?_;clear K;rintro e V ⟨rfl,rfl⟩;go_wp2
   refine ⟨⟨a+m+b,by omega,by go_num,T.out⟩,by simp [intOf];omega⟩
end Go.Proofs.YtmbofhpmockmbaaGreatDoor
