import Derived.Test.YtmbofhpmockmbaaGreatDoorMC8
namespace Go.Proofs.YtmbofhpmockmbaaGreatDoor
open Go.RowKit
set_option maxHeartbeats 16000000
set_option maxRecDepth 100000
def zZ (p:Nat→Bool) (l:List UInt8):Nat:=(l.takeWhile fun c=>p c.toNat).length
theorem Z6 (p:Nat→Bool) (l:List UInt8):zZ p l≤l.length:=by
 unfold zZ
 exact (List.takeWhile_sublist _).length_le
def YG (l:List UInt8):Bool:=Lib.hasPrefix l [47,47]
theorem Vi {l:List UInt8} (h:YG l=true):∃t,l=47::47::t:=by
 unfold YG Lib.hasPrefix at h
 match l,h with
 | [],h=>simp at h
 | [a],h=>simp at h
 | a::b::t,h=>simp at h;exact ⟨t,by rw [←h.1,←h.2]⟩
theorem yD {l:List UInt8} (h:YG l=true):2≤zZ zY l:=by
 obtain ⟨t,rfl⟩:=Vi h
 unfold zZ
 rw [List.takeWhile_cons_of_pos (by decide),List.takeWhile_cons_of_pos (by decide)]
 simp
def ZR (l:List UInt8):Nat :=
 if _h:YG (l.drop (zZ zw l))=true then
  zZ zw l+(zZ zY (l.drop (zZ zw l))+ZR ((l.drop (zZ zw l)).drop (zZ zY (l.drop (zZ zw l)))))
 else zZ zw l
termination_by l.length
decreasing_by
 have:=yD ‹_›
 have h3:=Z6 zY (l.drop (zZ zw l));simp only [List.length_drop] at *;omega
def Y7 (r:List UInt8):Nat:=if YG r=true then zZ zY r+ZR (r.drop (zZ zY r)) else 0
theorem vC (l:List UInt8):ZR l=zZ zw l+Y7 (l.drop (zZ zw l)):=by
 rw [ZR]
 unfold Y7
 by_cases h:YG (l.drop (zZ zw l))=true
 ·rw [dif_pos h,if_pos h]
 ·rw [dif_neg h,if_neg h];rfl
theorem xR:∀(n:Nat) (l:List UInt8),l.length≤n→ZR l≤l.length
 | n,l,hn=>by
  rw [ZR];have y:=Z6 zw l
  by_cases h:YG (l.drop (zZ zw l))=true
  ·rw [dif_pos h]
   have A:=yD h;have o:=Z6 zY (l.drop (zZ zw l));rw [List.length_drop] at o;have z:=xR (n-1) ((l.drop (zZ zw l)).drop (zZ zY (l.drop (zZ zw l)))) (by simp only [List.length_drop];omega)
   simp only [List.length_drop] at z;omega
  ·rw [dif_neg h];exact y
termination_by _ l=>l.length
decreasing_by
 have:=yD ‹_›
 have h3:=Z6 zY (l.drop (zZ zw l));simp only [List.length_drop] at *;omega
theorem uE (l:List UInt8) (w:World) (hl:l.length≤9223372036854775000) :
  Calls Tryz.prog 139 #[.string (za l)] w fun e w'=>e=.returned (.int .i64 (ZR l))∧w=w':=by
 obtain ⟨G,A⟩:∃G,G=ZR l:=⟨_,rfl⟩;have U:G≤l.length:=by rw [A];exact xR _ l (Nat.le_refl _)
 have K:=Z6 zw l;have Y:Hid (G=zZ zw l+Y7 (l.drop (zZ zw l))):=show G=_ by rw [A];exact vC l
 have o:Hid (∀a,a≤l.length→∀wx,(Instr.slice 9 (.string (za l)) (some (.int .i64 (a:Int))) none none).run Tryz.prog wx=.ok (.string (za (l.drop a))) wx):=fun a h wx=>yA wx l a h
 rw [←A];clear A
 go_enter Tryz.func139,Tryz.ntmps139
 go_wp2_with fail
 have J:=xr l w hl;rw [show (l.takeWhile fun c=>zw c.toNat).length=zZ zw l from rfl] at J
 refine J.mono ?_;clear J;rintro e O ⟨rfl,rfl⟩;go_wp2_with fail
 go_loop [3] (fun v=>∃a:Nat,a≤l.length∧v=.int .i64 a∧G=a+Y7 (l.drop a)) (fun v=>l.length-(intOf v).toNat)
 case atStart=>exact ⟨_,K,rfl,Y.out⟩
 case round =>
  obtain ⟨a,Z,rfl,z⟩:=hrel;have y:Hid (G=a+Y7 (l.drop a)):=z;have R:=o.out a Z;clear z;have M:=Tryz.strings_HasPrefix (za (l.drop a)) ⟨#[47,47]⟩ w;rw [show Lib.hasPrefix (za (l.drop a)).data.toList (⟨#[47,47]⟩:ByteArray).data.toList=YG (l.drop a) from rfl] at M
  go_wp2_with fail
  refine M.mono ?_;clear M;rintro e O ⟨rfl,rfl⟩;cases hr:YG (l.drop a) with
  | false =>
   have N:G=a:=by rw [y.out];unfold Y7;rw [hr];rfl
   subst N;go_wp2
   go_ret
   exact ⟨rfl,rfl⟩
  | true =>
   have T:=yD hr;have Q:=Z6 zY (l.drop a);rw [List.length_drop] at Q;obtain ⟨m,E⟩:∃m,m=zZ zY (l.drop a):=⟨_,rfl⟩;rw [←E] at T Q;have L:=Vf (l.drop a) O (by rw [List.length_drop];omega)
   rw [show ((l.drop a).takeWhile fun c=>zY c.toNat).length=zZ zY (l.drop a) from rfl,←E] at L
   have H:=o.out (a+m) (by omega)
   rw [Int.natCast_add] at H;obtain ⟨b,D⟩:∃b,b=zZ zw (l.drop (a+m)):=⟨_,rfl⟩;have X:=Z6 zw (l.drop (a+m));rw [←D,List.length_drop] at X;have I:=xr (l.drop (a+m)) O (by rw [List.length_drop];omega)
   rw [show ((l.drop (a+m)).takeWhile fun c=>zw c.toNat).length=zZ zw (l.drop (a+m)) from rfl,←D] at I
   have W:Hid (G=a+m+b+Y7 (l.drop (a+m+b))):=show G=a+m+b+Y7 (l.drop (a+m+b)) by
    rw [y.out];have V:Y7 (l.drop a)=m+ZR ((l.drop a).drop m):=by unfold Y7;rw [if_pos hr,←E]
    rw [V,List.drop_drop,vC,←D,List.drop_drop];omega
   clear E D;go_wp2_with fail
   refine L.mono ?_;clear L;rintro e S ⟨rfl,rfl⟩;go_wp2_with fail
   refine I.mono ?_;clear I;rintro e S ⟨rfl,rfl⟩;go_wp2
   refine ⟨⟨a+m+b,by omega,by go_num,W.out⟩,by simp [intOf];omega⟩
end Go.Proofs.YtmbofhpmockmbaaGreatDoor
