import Derived.Test.YtbjndgachcdbcaaGreatDoorMC17
import Derived.BigQuiet
namespace Go.Proofs.YtbjndgachcdbcaaGreatDoor
open Go.RowKit Go.Shelf
set_option maxHeartbeats 16000000
set_option maxRecDepth 100000
theorem xf (S T:Nat→Prop) (l m:List (List UInt8)) (v u:Value) (w:World) (hl:rowIn S w v 1 Y6 l) (hm:rowIn T w u 1 Y6 m) (hll:l.length≤1048576) :
  Calls Tryz.prog 17 #[v,u] w fun e w'=>e=.returned (.bool (decide (l=m)))∧Below w.heap.size w w':=by
 obtain ⟨b1,k1,rfl,-,-,B⟩:=hl.at
 obtain ⟨b2,k2,rfl,-,-,W⟩:=hm.at
 have H1:Hid (∀i (hi:i<l.length),∃b o,b1=some ⟨b,o,none⟩∧S b∧b<w.heap.size∧Y6 w b (o+i*1) l[i]):=B;have H2:Hid (∀i (hi:i<m.length),∃b o,b2=some ⟨b,o,none⟩∧T b∧b<w.heap.size∧Y6 w b (o+i*1) m[i]):=W;have H:Hid (Below w.heap.size w w):=Below.refl _ _;clear B W hl hm
 by_cases hlen:l.length=m.length
 ·have E:((l.length:Int)==(m.length:Int))=true:=by rw [hlen];simp
  have z:(l.length==m.length)=true:=by rw [hlen];simp
  obtain ⟨n,hn⟩:∃n,n=m.length:=⟨_,rfl⟩;have D:Hid (l.length=m.length):=hlen;rw [hlen];rw [hlen] at hll;have aa:(m.length:Int)≤1048576:=by omega
  clear E z hn hlen
  go_enter Tryz.func17,Tryz.ntmps17
  go_wp2
  go_loopw [5] (fun vi wr=>∃i:Nat,i≤m.length∧vi=.int .i64 (i:Int)∧Hid (l.take i=m.take i)∧Below w.heap.size w wr) (fun vi _=>m.length-(intOf vi).toNat)
  case atStart=>exact ⟨0,Nat.zero_le _,rfl,by show _=_;simp,H.out⟩
  case round =>
   obtain ⟨i,hi,rfl,Y,G⟩:=hrel;have c:Hid (Below w.heap.size w wr):=G;clear G
   by_cases hlt:i<m.length
   ·have R:(i:Int)<m.length:=by omega
    have F:i<l.length:=by have:=D.out;omega
    obtain ⟨V,o1,rfl,-,K,A⟩:=H1.out i F;obtain ⟨Z,X,rfl,-,U,q⟩:=H2.out i hlt;obtain ⟨x,O⟩:∃x,x=l[i]:=⟨_,rfl⟩;obtain ⟨y,M⟩:∃y,y=m[i]:=⟨_,rfl⟩
    have d1:wr.cell? ⟨V,o1+i,none⟩=some (.string (za x)):=by
     have:=(zb (g:=V) (j:=o1+i*1) c.out K).trans A
     rw [O]
     simpa only [Nat.mul_one] using this
    have d2:wr.cell? ⟨Z,X+i,none⟩=some (.string (za y)):=by
     have:=(zb (g:=Z) (j:=X+i*1) c.out U).trans q
     rw [M]
     simpa only [Nat.mul_one] using this
    have I:Hid (x=l[i]∧y=m[i]):=⟨O,M⟩;clear A q O M
    by_cases he:x=y
    ·subst he
     have J:Hid (l.take (i+1)=m.take (i+1)):=by
      have e1:l.take i++[l[i]]=l.take (i+1):=List.take_append_getElem F;have e2:m.take i++[m[i]]=m.take (i+1):=List.take_append_getElem hlt;show _=_
      rw [←e1,←e2,Y.out,←I.out.1,←I.out.2]
     go_upto_region 6 with fail
     go_quiet (fail)
     go_wp2
     exact ⟨⟨i+1,by omega,by go_num,J,⟨c.out.os,c.out.tape,c.out.output,c.out.size,c.out.block⟩⟩,by simp [intOf];omega⟩
    ·have ab:(x==y)=false:=by rw [Uc];exact decide_eq_false he
     have h:Hid (decide (l=m)=false):=decide_eq_false fun e=>he (by
      rw [I.out.1,I.out.2]
      simp only [e])
     clear he
     go_upto_region 6 with fail
     go_quiet (fail)
     go_wp2
     go_ret
     rw [h.out];exact ⟨rfl,⟨c.out.os,c.out.tape,c.out.output,c.out.size,c.out.block⟩⟩
   ·obtain rfl:i=m.length:=by omega
    have R:¬ (m.length:Int)<m.length:=by omega
    have h:Hid (decide (l=m)=true):=decide_eq_true (by
     have B:=Y.out;rw [List.take_length,←D.out,List.take_length] at B
     exact B)
    go_wp2
    go_ret
    rw [h.out];exact ⟨rfl,c.out⟩
 ·have E:((l.length:Int)==(m.length:Int))=false:=by rw [beq_eq_false_iff_ne];omega
  have z:(l.length==m.length)=false:=by rw [beq_eq_false_iff_ne];exact hlen
  have h:Hid (decide (l=m)=false):=decide_eq_false fun e=>hlen (by rw [e])
  clear hlen
  go_enter Tryz.func17,Tryz.ntmps17
  go_wp2
  go_ret
  rw [h.out];exact ⟨rfl,H.out⟩
end Go.Proofs.YtbjndgachcdbcaaGreatDoor
