import Derived.Test.YtbjndgachcdbcaaGreatDoorVBase
import Derived.BigQuiet
namespace Go.Proofs.YtbjndgachcdbcaaGreatDoor
open Go.RowKit Go.Shelf
set_option maxHeartbeats 16000000
set_option maxRecDepth 100000
theorem YO (S T:Nat→Prop) (l m:List (List UInt8)) (v u:Value) (w:World) (hl:rowIn S w v 1 xS l) (hm:rowIn T w u 1 xS m) (hll:l.length≤1048576) :
  Calls Tryz.prog 17 #[v,u] w fun e w'=>e=.returned (.bool (decide (l=m)))∧Below w.heap.size w w':=by
 obtain ⟨b1,k1,rfl,-,-,B⟩:=hl.at
 obtain ⟨b2,k2,rfl,-,-,Y⟩:=hm.at
 have H1:Hid (∀i (hi:i<l.length),∃b o,b1=some ⟨b,o,none⟩∧S b∧b<w.heap.size∧xS w b (o+i*1) l[i]):=B;have H2:Hid (∀i (hi:i<m.length),∃b o,b2=some ⟨b,o,none⟩∧T b∧b<w.heap.size∧xS w b (o+i*1) m[i]):=Y;have h:Hid (Below w.heap.size w w):=Below.refl _ _;clear B Y hl hm
 by_cases hlen:l.length=m.length
 ·have H:((l.length:Int)==(m.length:Int))=true:=by rw [hlen];simp
  have G:(l.length==m.length)=true:=by rw [hlen];simp
  obtain ⟨n,hn⟩:∃n,n=m.length:=⟨_,rfl⟩;have z:Hid (l.length=m.length):=hlen;rw [hlen];rw [hlen] at hll;have ab:(m.length:Int)≤1048576:=by omega
  clear H G hn hlen
  go_enter Tryz.func17,Tryz.ntmps17
  go_wp2
  go_loopw [5] (fun vi wr=>∃i:Nat,i≤m.length∧vi=.int .i64 (i:Int)∧Hid (l.take i=m.take i)∧Below w.heap.size w wr) (fun vi _=>m.length-(intOf vi).toNat)
  case atStart=>exact ⟨0,Nat.zero_le _,rfl,by show _=_;simp,h.out⟩
  case round =>
   obtain ⟨i,hi,rfl,V,D⟩:=hrel;have c:Hid (Below w.heap.size w wr):=D;clear D
   by_cases hlt:i<m.length
   ·have J:(i:Int)<m.length:=by omega
    have A:i<l.length:=by have:=z.out;omega
    obtain ⟨Z,o1,rfl,-,M,F⟩:=H1.out i A;obtain ⟨X,W,rfl,-,O,E⟩:=H2.out i hlt;obtain ⟨x,R⟩:∃x,x=l[i]:=⟨_,rfl⟩;obtain ⟨y,K⟩:∃y,y=m[i]:=⟨_,rfl⟩
    have d1:wr.cell? ⟨Z,o1+i,none⟩=some (.string (za x)):=by
     have:=(zh (g:=Z) (j:=o1+i*1) c.out M).trans F
     rw [R]
     simpa only [Nat.mul_one] using this
    have d2:wr.cell? ⟨X,W+i,none⟩=some (.string (za y)):=by
     have:=(zh (g:=X) (j:=W+i*1) c.out O).trans E
     rw [K]
     simpa only [Nat.mul_one] using this
    have I:Hid (x=l[i]∧y=m[i]):=⟨R,K⟩;clear F E R K
    by_cases he:x=y
    ·subst he
     have U:Hid (l.take (i+1)=m.take (i+1)):=by
      have e1:l.take i++[l[i]]=l.take (i+1):=List.take_append_getElem A;have e2:m.take i++[m[i]]=m.take (i+1):=List.take_append_getElem hlt;show _=_
      rw [←e1,←e2,V.out,←I.out.1,←I.out.2]
     go_upto_region 6 with fail
     go_quiet (fail)
     go_wp2
     exact ⟨⟨i+1,by omega,by go_num,U,⟨c.out.os,c.out.tape,c.out.output,c.out.size,c.out.block⟩⟩,by simp [intOf];omega⟩
    ·have aa:(x==y)=false:=by rw [V7];exact decide_eq_false he
     have q:Hid (decide (l=m)=false):=decide_eq_false fun e=>he (by
      rw [I.out.1,I.out.2]
      simp only [e])
     clear he
     go_upto_region 6 with fail
     go_quiet (fail)
     go_wp2
     go_ret
     rw [q.out];exact ⟨rfl,⟨c.out.os,c.out.tape,c.out.output,c.out.size,c.out.block⟩⟩
   ·obtain rfl:i=m.length:=by omega
    have J:¬ (m.length:Int)<m.length:=by omega
    have q:Hid (decide (l=m)=true):=decide_eq_true (by
     have B:=V.out;rw [List.take_length,←z.out,List.take_length] at B
     exact B)
    go_wp2
    go_ret
    rw [q.out];exact ⟨rfl,c.out⟩
 ·have H:((l.length:Int)==(m.length:Int))=false:=by rw [beq_eq_false_iff_ne];omega
  have G:(l.length==m.length)=false:=by rw [beq_eq_false_iff_ne];exact hlen
  have q:Hid (decide (l=m)=false):=decide_eq_false fun e=>hlen (by rw [e])
  clear hlen
  go_enter Tryz.func17,Tryz.ntmps17
  go_wp2
  go_ret
  rw [q.out];exact ⟨rfl,h.out⟩
end Go.Proofs.YtbjndgachcdbcaaGreatDoor
