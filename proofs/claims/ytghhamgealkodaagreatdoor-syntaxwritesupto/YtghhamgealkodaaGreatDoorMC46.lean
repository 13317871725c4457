import Derived.Test.YtghhamgealkodaaGreatDoorMC45
import Derived.Deep.RegionHeld3
import Derived.Deep.RegionWith
import Derived.Test.YtghhamgealkodaaGreatDoorMC47
import Derived.Test.YtghhamgealkodaaGreatDoorMC9
import Derived.Test.YtghhamgealkodaaGreatDoorMC43
namespace Go.Proofs.YtghhamgealkodaaGreatDoor
open Go.RowKit Go.Shelf
set_option maxRecDepth 100000
theorem dec_len (u:Nat) (hu:u≤9223372036854775808):(Lib.decDigits u).length≤100:=by
 have h:=wrB_len 2 (u:Int) []
 by_cases h9:(u:Int)≤9223372036854775807
 ·have h8:=h (by omega) h9
  have e:wrB 2 (u:Int) []=Lib.decDigits u:=by
   show Lib.itoa (u:Int)=_
   unfold Lib.itoa
   rw [if_neg (by omega),Int.toNat_natCast]
  rw [e] at h8
  simp at h8
  omega
 ·have e:u=9223372036854775808:=by omega
  subst e
  rw [Lib.decDigits_length]
  decide +kernel
theorem conv_one (wx:World) (g c:Nat) (hc:c<256) (h:wx.cell? ⟨g,0,none⟩=some (.int .u8 (c:Int))):(convert 129 9 (.slice (some ⟨g,0,none⟩) 1 1)).run Tryz.prog wx=.ok (.string (strB [c.toUInt8])) wx :=
 conv_row wx (some ⟨g,0,none⟩) [c.toUInt8] 1 (bytesAt_row (bytesAt_one hc h)).2.1
set_option maxHeartbeats 1000000 in
theorem refDigits_any (n:Nat):∀(w:World),n<9223372036854775808 →
  Calls Tryz.prog 97 #[.int .i64 (n:Int)] w fun e w'=>e=.returned (.string (strB (Lib.decDigits n)))∧Below w.heap.size w w':=by
 induction n using Nat.strongRecOn with
 | _ n ih =>
  intro w hn
  by_cases h:n<10
  ·obtain ⟨x,hx⟩:∃x:UInt8,x=(n+48).toUInt8:=⟨_,rfl⟩
   have HD:Hid (Lib.decDigits n=[x]):=by
    show _=_
    rw [Lib.decDigits,dif_pos h,Nat.add_comm,hx]
   have hcv:=conv_one (w.alloc (.cells #[.int .u8 ((n:Int)+48)] 5)) w.heap.size (n+48) (by omega) (by simp)
   rw [←hx] at hcv
   have e9:(48:Int)+n=n+48:=by omega
   clear ih hx
   go_enter Tryz.func97,Tryz.ntmps97
   go_wp2
   go_ret
   rw [HD.out]
   exact ⟨rfl,(Below.refl _ w).alloc (Nat.le_refl _) _⟩
  ·obtain ⟨q,hq⟩:∃q,q=n / 10:=⟨_,rfl⟩
   obtain ⟨d,hd⟩:∃d,d=n % 10:=⟨_,rfl⟩
   obtain ⟨x,hx⟩:∃x:UInt8,x=(d+48).toUInt8:=⟨_,rfl⟩
   have HD:Hid (Lib.decDigits n=Lib.decDigits q++[x]):=by
    show _=_
    rw [Lib.decDigits,dif_neg h,←hq,←hd,Nat.add_comm,hx]
   have hd10:d<10:=by omega
   have hqb:q<922337203685477581:=by omega
   have cq:=fun wx=>ih q (by omega) wx (by omega)
   have hql:=dec_len q (by omega)
   obtain ⟨y,hy⟩:∃y,y=Lib.decDigits q:=⟨_,rfl⟩
   rw [←hy] at cq HD hql
   have hys:(strB y).size=y.length:=rfl
   have hcv:∀(wx:World) (g:Nat),wx.cell? ⟨g,0,none⟩=some (.int .u8 ((d:Int)+48))→(convert 129 9 (.slice (some ⟨g,0,none⟩) 1 1)).run Tryz.prog wx=.ok (.string (strB [x])) wx:=fun wx g hc=>by
    rw [hx];exact conv_one wx g (d+48) (by omega) (by rw [hc];rfl)
   have e1:(n:Int).tdiv 10=q:=by rw [Int.tdiv_eq_ediv_of_nonneg (by omega)];omega
   have e2:(n:Int).tmod 10=d:=by rw [Int.tmod_eq_emod_of_nonneg (by omega)];omega
   have e3:(n:Int) / 10=q:=by omega
   have e4:(n:Int) % 10=d:=by omega
   have e9:(48:Int)+d=d+48:=by omega
   have h10:¬ (n:Int)<10:=by omega
   have hwq:IntKind.i64.wrap (q:Int)=q:=by rw [IntKind.wrap_i64];omega
   have hwd:IntKind.i64.wrap (d:Int)=d:=by rw [IntKind.wrap_i64];omega
   have hw1:IntKind.i64.wrap ((d:Int)+48)=d+48:=by rw [IntKind.wrap_i64];omega
   have hw2:IntKind.u8.wrap ((d:Int)+48)=d+48:=by rw [IntKind.wrap_u8];omega
   have hcat:strB y++strB [x]=strB (y++[x]):=strB_append y [x]
   clear ih hx hy hq hd
   go_enter Tryz.func97,Tryz.ntmps97
   go_wp2_with fail
   go_region_with (go_at_call 97;refine (cq _).mono ?_;rintro e w2 ⟨rfl,hb2⟩;have hc2:=fun hlt=>below_cell (j:=0) (g:=w.heap.size) hb2 hlt)
   all_goals go_wp2
   all_goals go_ret
   all_goals rw [HD.out]
   all_goals first
    | exact ⟨rfl,(((Below.refl w.heap.size w).drew).trans hb2).alloc hb2.size _⟩
    | exact ⟨rfl,(((Below.refl w.heap.size w).alloc (Nat.le_refl _) _).drew).trans (hb2.mono (by simp))⟩
    | exact ⟨rfl,(((Below.refl w.heap.size w).drew).alloc (Nat.le_refl _) _).trans (hb2.mono (by simp))⟩
set_option maxHeartbeats 2000000 in
theorem refPlain_any (s:List UInt8) (w:World) (hl:s.length≤100000000) :
  Calls Tryz.prog 96 #[.string (strB s)] w fun e w'=>e=.returned (.bool (plainQ s))∧w=w':=by
 have hsz:(strB s).size=s.length:=rfl
 go_enter Tryz.func96,Tryz.ntmps96
 go_wp2
 go_loop [3] (fun v=>∃i:Nat,i≤s.length∧v=.int .i64 i∧(s.take i).all okC=true) (fun v=>s.length-(intOf v).toNat)
 case atStart=>exact ⟨0,Nat.zero_le _,rfl,rfl⟩
 case round =>
  obtain ⟨i,hi,rfl,hall⟩:=hrel
  have HA:Hid ((s.take i).all okC=true):=hall
  clear hall
  by_cases hlt:i<s.length
  ·have hidx:=fun wx=>str_at wx s i hlt
   obtain ⟨c,hc⟩:∃c,c=(s[i]).toNat:=⟨_,rfl⟩
   rw [←hc] at hidx
   have hc256:c<256:=by rw [hc];exact UInt8.toNat_lt _
   have HNX:Hid ((s.take (i+1)).all okC=okC s[i]):=by
    show _=_
    rw [List.take_succ_eq_append_getElem hlt,List.all_append,HA.out,Bool.true_and]
    simp
   have HOK:Hid (okC s[i]=true↔(c=10∨(32≤c∧c≤126))):=by rw [hc];exact okC_iff _
   have HBAD:Hid (okC s[i]=false→plainQ s=false):=fun h=>by
    unfold plainQ
    have:s.all okC=false:=by
     rw [Bool.eq_false_iff]
     intro h9
     have:=List.all_eq_true.1 h9 s[i] (List.getElem_mem hlt)
     rw [h] at this;cases this
    rw [this];rfl
   clear hc
   by_cases h10:c=10
   ·have HN:Hid ((s.take (i+1)).all okC=true):=HNX.out.trans (HOK.out.2 (.inl h10))
    subst h10
    go_wp2
    exact ⟨⟨i+1,by omega,by go_num,HN.out⟩,by simp [intOf];omega⟩
   ·have h10b:((c:Int) != 10)=true:=by rw [bne_iff_ne];omega
    by_cases hlo:c<32
    ·have HP:Hid (plainQ s=false):=HBAD.out (by rw [Bool.eq_false_iff];intro h;rcases HOK.out.1 h with h | h <;> omega)
     go_wp2
     go_ret
     rw [HP.out]
     exact ⟨rfl,rfl⟩
    ·by_cases hhi:126<c
     ·have HP:Hid (plainQ s=false):=HBAD.out (by rw [Bool.eq_false_iff];intro h;rcases HOK.out.1 h with h | h <;> omega)
      go_wp2
      go_ret
      rw [HP.out]
      exact ⟨rfl,rfl⟩
     ·have HN:Hid ((s.take (i+1)).all okC=true):=HNX.out.trans (HOK.out.2 (.inr (by omega)))
      go_wp2
      exact ⟨⟨i+1,by omega,by go_num,HN.out⟩,by simp [intOf];omega⟩
  ·obtain rfl:i=s.length:=by omega
   have HP:Hid (plainQ s=decide ((s.length:Int)≤255)):=by
    show _=_
    have h9:=HA.out
    rw [List.take_length] at h9
    unfold plainQ
    rw [h9,Bool.true_and,Bool.eq_iff_iff,decide_eq_true_eq,decide_eq_true_eq]
    omega
   go_wp2
   all_goals go_ret
   all_goals rw [HP.out]
   all_goals exact ⟨rfl,rfl⟩
set_option maxHeartbeats 4000000 in
theorem refName_any (s:List UInt8) (w:World) (hl:s.length≤100000000) :
  Calls Tryz.prog 84 #[.string (strB s)] w fun e w'=>e=.returned (.bool (nameQ s))∧Below w.heap.size w w':=by
 have hsz:(strB s).size=s.length:=rfl
 cases s with
 | nil =>
  go_enter Tryz.func84,Tryz.ntmps84
  go_wp2
  go_ret
  exact ⟨rfl,Below.refl _ _⟩
 | cons x r =>
  have hlen:(x::r).length=r.length+1:=rfl
  have HQ:Hid (nameQ (x::r)=(letterN x.toNat&&r.all (fun c=>nameN c.toNat)&&!isWord (x::r)&&decide ((x::r).length≤20))):=rfl
  have hidx0:=fun wx=>str_at wx (x::r) 0 (by simp)
  rw [show ((0:Nat):Int)=0 from rfl,show (x::r)[0]=x from rfl] at hidx0
  obtain ⟨n,hn⟩:∃n,n=x.toNat:=⟨_,rfl⟩
  have hn256:n<256:=by rw [hn];exact UInt8.toNat_lt x
  rw [←hn] at hidx0 HQ
  have cl:=refLetter_any n w hn256
  have cw:=refWord_any (x::r) w
  rw [hsz] at *
  have hcell:∀j (h:j<(x::r).length) (wx:World),(Instr.index 9 (.string (strB (x::r))) (.int .i64 (j:Int))).run Tryz.prog wx=.ok (.int .u8 (((x::r)[j]).toNat:Int)) wx:=fun j h wx=>str_at wx (x::r) j h
  have HCE:Hid (∀j (h:j<(x::r).length) (wx:World),(Instr.index 9 (.string (strB (x::r))) (.int .i64 (j:Int))).run Tryz.prog wx=.ok (.int .u8 (((x::r)[j]).toNat:Int)) wx):=hcell
  clear hn hcell
  by_cases h20:20<r.length+1
  ·have HF:Hid (nameQ (x::r)=false):=by
    show _=false
    rw [HQ.out,show decide ((x::r).length≤20)=false from decide_eq_false (by rw [List.length_cons];omega),Bool.and_false]
   have h1:¬ (r.length:Int)+1<1:=by omega
   have h2:(20:Int)<(r.length:Int)+1:=by omega
   go_enter Tryz.func84,Tryz.ntmps84
   go_wp2
   go_ret
   rw [HF.out]
   exact ⟨rfl,Below.refl _ _⟩
  ·have h1:¬ (r.length:Int)+1<1:=by omega
   have h2:¬ (20:Int)<(r.length:Int)+1:=by omega
   go_enter Tryz.func84,Tryz.ntmps84
   go_wp2_with fail
   refine cl.mono ?_
   clear cl
   rintro e w1 ⟨rfl,rfl⟩
   cases hq:letterN n with
   | false =>
    have HF:Hid (nameQ (x::r)=false):=by show _=false;rw [HQ.out,hq];rfl
    go_wp2
    go_ret
    rw [HF.out]
    exact ⟨rfl,Below.refl _ _⟩
   | true =>
    go_wp2_with fail
    refine cw.mono ?_
    clear cw
    rintro e w1 ⟨rfl,hb1⟩
    have HB1:Hid (Below w.heap.size w w1):=hb1
    clear hb1
    cases hw:isWord (x::r) with
    | true =>
     have HF:Hid (nameQ (x::r)=false):=by show _=false;rw [HQ.out,hw];simp
     go_wp2
     go_ret
     rw [HF.out]
     exact ⟨rfl,HB1.out⟩
    | false =>
     have HQ2:Hid (nameQ (x::r)=r.all (fun c=>nameN c.toNat)):=by
      show _=_
      rw [HQ.out,hq,hw,show decide ((x::r).length≤20)=true from decide_eq_true (by rw [List.length_cons];omega)]
      simp
     clear hidx0
     go_wp2
     go_loop [3] (fun v=>∃i:Nat,1≤i∧i≤r.length+1∧v=.int .i64 i∧(r.take (i-1)).all (fun c=>nameN c.toNat)=true) (fun v=>r.length+1-(intOf v).toNat)
     case atStart=>exact ⟨1,Nat.le_refl _,by omega,rfl,rfl⟩
     case round =>
      obtain ⟨i,hi1,hi,rfl,hall⟩:=hrel
      have HA:Hid ((r.take (i-1)).all (fun c=>nameN c.toNat)=true):=hall
      clear hall
      by_cases hlt:i<r.length+1
      ·have hidx:=HCE.out i (by rw [List.length_cons];exact hlt)
       have hxi:(x::r)[i]'(by rw [List.length_cons];exact hlt)=r[i-1]'(by omega):=by
        obtain ⟨j,rfl⟩:∃j,i=j+1:=⟨i-1,by omega⟩
        rfl
       rw [hxi] at hidx
       obtain ⟨c,hc⟩:∃c,c=(r[i-1]'(by omega)).toNat:=⟨_,rfl⟩
       rw [←hc] at hidx
       have hc256:c<256:=by rw [hc];exact UInt8.toNat_lt _
       have HNX:Hid ((r.take i).all (fun c=>nameN c.toNat)=nameN c):=by
        show _=_
        have e9:r.take i=r.take (i-1)++[r[i-1]'(by omega)]:=by
         have:=List.take_succ_eq_append_getElem (show i-1<r.length by omega)
         rw [show i-1+1=i by omega] at this
         exact this
        rw [e9,List.all_append,HA.out,Bool.true_and,hc]
        simp
       have HBAD:Hid (nameN c=false→r.all (fun c=>nameN c.toNat)=false):=fun h=>by
        rw [Bool.eq_false_iff]
        intro h9
        have:=List.all_eq_true.1 h9 (r[i-1]'(by omega)) (List.getElem_mem _)
        rw [←hc,h] at this;cases this
       have c2:=refLetter_any c w1 hc256
       have c3:=refDigit_any c w1 hc256
       have hi2:(i:Int)<(r.length:Int)+1:=by omega
       clear hc hxi
       go_wp2_with fail
       refine c2.mono ?_
       clear c2
       rintro e w3 ⟨rfl,rfl⟩
       cases hq1:letterN c with
       | true =>
        have HN:Hid ((r.take i).all (fun c=>nameN c.toNat)=true):=HNX.out.trans (by simp [nameN,hq1])
        go_wp2
        exact ⟨⟨i+1,by omega,by omega,by go_num,by rw [Nat.add_sub_cancel];exact HN.out⟩,by simp [intOf];omega⟩
       | false =>
        go_wp2_with fail
        refine c3.mono ?_
        clear c3
        rintro e w3 ⟨rfl,rfl⟩
        cases hq2:digitN c with
        | true =>
         have HN:Hid ((r.take i).all (fun c=>nameN c.toNat)=true):=HNX.out.trans (by simp [nameN,hq2])
         go_wp2
         exact ⟨⟨i+1,by omega,by omega,by go_num,by rw [Nat.add_sub_cancel];exact HN.out⟩,by simp [intOf];omega⟩
        | false =>
         have HF:Hid (nameQ (x::r)=false):=HQ2.out.trans (HBAD.out (by simp [nameN,hq1,hq2]))
         go_wp2
         go_ret
         rw [HF.out]
         exact ⟨rfl,HB1.out⟩
      ·obtain rfl:i=r.length+1:=by omega
       have hi2:¬ ((r.length:Int)+1)<(r.length:Int)+1:=by omega
       have HF:Hid (nameQ (x::r)=true):=by
        show _=true
        rw [HQ2.out]
        have:=HA.out
        rw [Nat.add_sub_cancel,List.take_length] at this
        exact this
       go_wp2
       go_ret
       rw [HF.out]
       exact ⟨rfl,HB1.out⟩
set_option maxHeartbeats 4000000 in
theorem refQuote_any (s:List UInt8) (w:World) (hl:s.length≤100000000) :
  Calls Tryz.prog 98 #[.string (strB s)] w fun e w'=>e=.returned (.string (strB (quoteB s)))∧Below w.heap.size w w':=by
 have hsz:(strB s).size=s.length:=rfl
 have HO1:Hid ((w.alloc (.cells #[.int .u8 ((34:Nat):Int)] 5)).ownsRow w.heap.size 5 1 (.slice (some ⟨w.heap.size,0,none⟩) 1 1) [(34:Nat).toUInt8].length (Lib.byteCells [(34:Nat).toUInt8])):=own_fresh1 w 34 (by decide)
 have HB1:Hid (Below w.heap.size w (w.alloc (.cells #[.int .u8 ((34:Nat):Int)] 5))):=(Below.refl _ w).alloc (Nat.le_refl _) _
 go_enter Tryz.func98,Tryz.ntmps98
 go_wp2
 go_loopw [3,4] (fun vb vi wr=>∃i:Nat,i≤s.length∧vi=.int .i64 i∧wr.ownsRow w.heap.size 5 1 vb (34::(s.take i).flatMap escB).length (Lib.byteCells (34::(s.take i).flatMap escB))∧Below w.heap.size w wr) (fun _ vi _=>s.length-(intOf vi).toNat)
 case atStart=>exact ⟨0,Nat.zero_le _,rfl,HO1.out,HB1.out⟩
 case round =>
  obtain ⟨i,hi,rfl,hown,hbw⟩:=hrel
  have hszw:=hbw.size
  have HB:Hid (Below w.heap.size w wr):=hbw
  have hfl:(34::(s.take i).flatMap escB).length≤2*s.length+1:=by
   have h9:=flat_len (s.take i)
   rw [List.length_take] at h9
   rw [List.length_cons]
   omega
  by_cases hlt:i<s.length
  ·have hidx:=fun wx=>str_at wx s i hlt
   have HNX:Hid ((34::(s.take i).flatMap escB)++escB s[i]=34::(s.take (i+1)).flatMap escB):=by
    show _=_
    rw [flat_take s i hlt];rfl
   obtain ⟨us,hus⟩:∃us,us=34::(s.take i).flatMap escB:=⟨_,rfl⟩
   rw [←hus] at HNX hown hfl
   have HO:Hid (wr.ownsRow w.heap.size 5 1 u3 us.length (Lib.byteCells us)):=hown
   have hes:escB s[i]=if (s[i]).toNat=92 then [92,92] else if (s[i]).toNat=34 then [92,34] else if (s[i]).toNat=10 then [92,110] else [s[i]]:=rfl
   obtain ⟨x,hx⟩:∃x,x=s[i]:=⟨_,rfl⟩
   rw [←hx] at hes HNX hidx
   obtain ⟨n,hn⟩:∃n,n=x.toNat:=⟨_,rfl⟩
   rw [←hn] at hes hidx
   have hn256:n<256:=by rw [hn];exact UInt8.toNat_lt x
   have hxn:x=n.toUInt8:=by rw [hn];exact (toUInt8_of x).symm
   clear hown hbw hus hx hn
   by_cases h92:n=92
   ·have HES:Hid (escB x=[(92:Nat).toUInt8,(92:Nat).toUInt8]):=hes.trans (if_pos h92)
    clear hes
    subst h92
    go_wp2_with (at_builtin;refine append_bytes rfl _ _ rfl w.heap.size _ us rfl (HO.out.alloc _) _ [(92:Nat).toUInt8,(92:Nat).toUInt8] rfl (bytesAt_two (by omega) (by omega) (by simp) (by simp)) (by simp;omega) (by simp;omega) ?_;intro v3 w3 hown3 hgrow)
    have HB3:Hid (Below w.heap.size w w3):=(HB.out.alloc hszw _).grown hgrow (by simp;omega) (fun q hq=>(HO.out.lt q hq).1)
    refine ⟨⟨i+1,by omega,by go_num,?_,HB3.out⟩,by simp [intOf];omega⟩
    rw [←HNX.out,HES.out]
    exact hown3
   ·have h92b:((n:Int)==92)=false:=by rw [beq_eq_false_iff_ne];omega
    rw [if_neg h92] at hes
    by_cases h34:n=34
    ·have HES:Hid (escB x=[(92:Nat).toUInt8,(34:Nat).toUInt8]):=hes.trans (if_pos h34)
     clear hes
     subst h34
     go_wp2_with (at_builtin;refine append_bytes rfl _ _ rfl w.heap.size _ us rfl (HO.out.alloc _) _ [(92:Nat).toUInt8,(34:Nat).toUInt8] rfl (bytesAt_two (by omega) (by omega) (by simp) (by simp)) (by simp;omega) (by simp;omega) ?_;intro v3 w3 hown3 hgrow)
     have HB3:Hid (Below w.heap.size w w3):=(HB.out.alloc hszw _).grown hgrow (by simp;omega) (fun q hq=>(HO.out.lt q hq).1)
     refine ⟨⟨i+1,by omega,by go_num,?_,HB3.out⟩,by simp [intOf];omega⟩
     rw [←HNX.out,HES.out]
     exact hown3
    ·have h34b:((n:Int)==34)=false:=by rw [beq_eq_false_iff_ne];omega
     rw [if_neg h34] at hes
     by_cases h10:n=10
     ·have HES:Hid (escB x=[(92:Nat).toUInt8,(110:Nat).toUInt8]):=hes.trans (if_pos h10)
      clear hes
      subst h10
      go_wp2_with (at_builtin;refine append_bytes rfl _ _ rfl w.heap.size _ us rfl (HO.out.alloc _) _ [(92:Nat).toUInt8,(110:Nat).toUInt8] rfl (bytesAt_two (by omega) (by omega) (by simp) (by simp)) (by simp;omega) (by simp;omega) ?_;intro v3 w3 hown3 hgrow)
      have HB3:Hid (Below w.heap.size w w3):=(HB.out.alloc hszw _).grown hgrow (by simp;omega) (fun q hq=>(HO.out.lt q hq).1)
      refine ⟨⟨i+1,by omega,by go_num,?_,HB3.out⟩,by simp [intOf];omega⟩
      rw [←HNX.out,HES.out]
      exact hown3
     ·have h10b:((n:Int)==10)=false:=by rw [beq_eq_false_iff_ne];omega
      rw [if_neg h10] at hes
      have HES:Hid (escB x=[n.toUInt8]):=show _=_ by rw [hes,←hxn]
      clear hes hxn
      go_wp2_with (at_builtin;refine append_bytes rfl _ _ rfl w.heap.size _ us rfl (HO.out.alloc _) _ [n.toUInt8] rfl (bytesAt_one (by omega) (by simp)) (by simp;omega) (by simp;omega) ?_;intro v3 w3 hown3 hgrow)
      have HB3:Hid (Below w.heap.size w w3):=(HB.out.alloc hszw _).grown hgrow (by simp;omega) (fun q hq=>(HO.out.lt q hq).1)
      refine ⟨⟨i+1,by omega,by go_num,?_,HB3.out⟩,by simp [intOf];omega⟩
      rw [←HNX.out,HES.out]
      exact hown3
  ·obtain rfl:i=s.length:=by omega
   have hi2:¬ (s.length:Int)<s.length:=by omega
   have HQ:Hid (quoteB s=(34::(s.take s.length).flatMap escB)++[(34:Nat).toUInt8]):=by
    show _=_
    rw [List.take_length];rfl
   obtain ⟨us,hus⟩:∃us,us=34::(s.take s.length).flatMap escB:=⟨_,rfl⟩
   rw [←hus] at HQ hown hfl
   have HO:Hid (wr.ownsRow w.heap.size 5 1 u3 us.length (Lib.byteCells us)):=hown
   clear hus hown hbw
   go_wp2_with (at_builtin;refine append_bytes rfl _ _ rfl w.heap.size _ us rfl (HO.out.alloc _) _ [(34:Nat).toUInt8] rfl (bytesAt_one (by decide) (by simp)) (by simp;omega) (by simp;omega) ?_;intro v3 w3 hown3 hgrow;obtain ⟨b3,cap3,rfl,hrow3,-,-,-⟩:=own_row hown3;have hcv:=conv_row w3 b3 _ cap3 hrow3;rw [show (us++[(34:Nat).toUInt8]).length=us.length+1 by simp] at hcv ⊢)
   have HB3:Hid (Below w.heap.size w w3):=(HB.out.alloc hszw _).grown hgrow (by simp;omega) (fun q hq=>(HO.out.lt q hq).1)
   clear hrow3 hown3 hgrow
   go_ret
   rw [HQ.out]
   exact ⟨rfl,HB3.out⟩
mutual
def lnE:Ez→Nat
 | .mk _ s _ kids _=>2*s.length+120+lnL kids
def lnL:List Ez→Nat
 | []=>0
 | x::xs=>lnE x+4+lnL xs
end
theorem lnL_get {l:List Ez}:∀{i:Nat} {y:Ez},l[i]?=some y→lnE y+4≤lnL l:=by
 induction l with
 | nil=>intro i y h;simp at h
 | cons x xs ih =>
  intro i y h
  rw [lnL]
  cases i with
  | zero=>simp only [List.getElem?_cons_zero,Option.some.injEq] at h;subst h;omega
  | succ i=>have:=ih (i:=i) (y:=y) (by simpa using h);omega
theorem withinT_len (x:Ez) (least:Nat) (t:List UInt8):(withinT x least t).length≤t.length+2:=by
 unfold withinT
 split <;> simp
def TextW (N:Nat):Prop:=∀(x:Ez) (v:Value) (w:World),dpE x≤N→rgE x=true→lnE x≤1000000000000→EzIn w.heap.size w x v →
  Calls Tryz.prog 55 #[v] w fun e w'=>e=.returned (.string (strB (txE x)))∧Below w.heap.size w w'
set_option maxHeartbeats 4000000 in
theorem levelR_any (k:Int) (s:List UInt8) (n:Int) (kids:List Ez) (base:Option Addr) (m cap:Nat) (line:Int) (w:World) :
  Calls Tryz.prog 134 #[ezV k s n base m cap line] w fun e w'=>e=.returned (.int .i64 ((lvE (.mk k s n kids line):Int)-1))∧Below w.heap.size w w':=by
 obtain ⟨w1,hw1⟩:∃w1,w1=w.alloc (ezO k s n base m cap line):=⟨_,rfl⟩
 have hb1:Below w.heap.size w w1:=by rw [hw1];exact (Below.refl _ w).alloc (Nat.le_refl _) _
 have p1:w1.heap[w.heap.size]?=some (ezO k s n base m cap line):=by rw [hw1];exact World.alloc_heap_new w _
 obtain ⟨c0,c1,c2,c3,c4⟩:=cellsZ p1
 have HB:Hid (Below w.heap.size w w1):=hb1
 have hw1':=hw1.symm
 have HV:Hid (lvE (.mk k s n kids line)=if k=7 then levelOf s else if k=6 then 7 else 8):=rfl
 generalize lvE (.mk k s n kids line)=L at *
 clear hb1 p1 hw1
 by_cases h6:k=6
 ·subst h6
  obtain rfl:L=7:=by rw [HV.out];simp
  go_enter Tryz.func134,Tryz.ntmps134
  go_wp2
  exact bodyPost_ret (v:=.int .i64 6) (by simp [results,Tryz.results134,go_sem]) rfl ⟨rfl,HB.out⟩
 by_cases h7:k=7
 ·subst h7
  obtain rfl:L=levelOf s:=by rw [HV.out];simp
  have cl:=refLine_any s w1
  generalize levelOf s=L at *
  go_enter Tryz.func134,Tryz.ntmps134
  go_wp2_with fail
  refine cl.mono ?_
  clear cl c0 c1 c2 c3 c4
  rintro e w2 ⟨rfl,hb2⟩
  have HB2:Hid (Below w.heap.size w w2):=below_via' HB.out hb2
  clear hb2
  go_wp2
  exact bodyPost_ret (v:=.int .i64 ((L:Int)-1)) (by simp [results,Tryz.results134,go_sem]) rfl ⟨rfl,HB2.out⟩
 obtain rfl:L=8:=by rw [HV.out,if_neg h7,if_neg h6]
 have f6:(k==6)=false:=by simpa using h6
 have f7:(k==7)=false:=by simpa using h7
 clear h6 h7
 go_enter Tryz.func134,Tryz.ntmps134
 go_wp2
 exact bodyPost_ret (v:=.int .i64 7) (by simp [results,Tryz.results134,go_sem]) rfl ⟨rfl,HB.out⟩
theorem brk_str (t:List UInt8):(⟨#[40]⟩++strB t++⟨#[41]⟩:ByteArray)=strB ([40]++t++[41]):=by
 apply ByteArray.ext
 unfold strB
 simp
set_option maxHeartbeats 4000000 in
theorem withinR_any (N:Nat) (hT:TextW N) (x:Ez) (v:Value) (w:World) (hd:dpE x≤N) (hr:rgE x=true) (hln:lnE x≤1000000000000) (htl:(txE x).length≤lnE x) (hx:EzIn w.heap.size w x v) (least:Nat) (lst:Int) (hl:lst=(least:Int)-1) (_hl9:least≤9) :
  Calls Tryz.prog 100 #[v,.int .i64 lst] w fun e w'=>e=.returned (.string (strB (withinT x least (txE x))))∧Below w.heap.size w w':=by
 obtain ⟨k,s,n,kids,line⟩:=x
 have hx0:=hx
 obtain ⟨base,cap,rfl,_⟩:=hx.kid
 obtain ⟨w1,hw1⟩:∃w1,w1=w.alloc (ezO k s n base kids.length cap line):=⟨_,rfl⟩
 have hb1:Below w.heap.size w w1:=by rw [hw1];exact (Below.refl _ w).alloc (Nat.le_refl _) _
 have p1:w1.heap[w.heap.size]?=some (ezO k s n base kids.length cap line):=by rw [hw1];exact World.alloc_heap_new w _
 have hsz1:w1.heap.size=w.heap.size+1:=by rw [hw1];simp
 have cl:=levelR_any k s n kids base kids.length cap line w1
 have HT:Hid (∀W,Below w1.heap.size w1 W→Calls Tryz.prog 55 #[ezV k s n base kids.length cap line] W fun e w'=>e=.returned (.string (strB (txE (.mk k s n kids line))))∧Below W.heap.size W w'):=fun W hW=>hT _ _ W hd hr hln ((hx0.kept (below_via' hb1 hW)).wide (below_via' hb1 hW).size)
 have HV:Hid (∀t,withinT (.mk k s n kids line) least t=if lvE (.mk k s n kids line)<least then [40]++t++[41] else t):=fun _=>rfl
 obtain ⟨c0,c1,c2,c3,c4⟩:=cellsZ p1
 have HP1:Hid (w1.heap[w.heap.size]?=some (ezO k s n base kids.length cap line)):=p1
 have HB1:Hid (Below w.heap.size w w1):=hb1
 have hw1':=hw1.symm
 have hl8:lvE (.mk k s n kids line)≤8:=by
  have:=levelOf_le s
  show (if k=7 then levelOf s else if k=6 then 7 else 8)≤8
  split
  ·omega
  ·split <;> omega
 obtain ⟨t,ht⟩:∃t,t=txE (.mk k s n kids line):=⟨_,rfl⟩
 rw [←ht] at htl ⊢
 simp only [←ht] at HT
 have htl2:t.length≤1000000000000:=Nat.le_trans htl hln
 have HW:=HV.out t
 generalize withinT (.mk k s n kids line) least t=Wt at *
 generalize lvE (.mk k s n kids line)=L at *
 generalize kids.length=m at *
 clear hx hx0 hb1 p1 hw1 ht hd hr hln htl HV hT
 go_enter Tryz.func100,Tryz.ntmps100
 go_wp2_with fail
 refine cl.mono ?_
 clear cl c0 c1 c2 c3 c4
 rintro e w2 ⟨rfl,hb2⟩
 obtain ⟨c0,c1,c2,c3,c4⟩:=cellsZ ((hb2.block w.heap.size (by omega)).trans HP1.out)
 have ct:=HT.out w2 hb2
 have HB2:Hid (Below w.heap.size w w2):=below_via' HB1.out hb2
 clear hb2 HT HP1
 by_cases hlt:L<least
 ·rw [if_pos hlt] at HW
  subst HW
  have hlt':(L:Int)-1<lst:=by omega
  go_wp2_with fail
  refine ct.mono ?_
  clear ct c0 c1 c2 c3 c4
  rintro e w3 ⟨rfl,hb3⟩
  have HB3:Hid (Below w.heap.size w w3):=below_via' HB2.out hb3
  clear hb3
  go_wp2
  exact bodyPost_ret (v:=.string (⟨#[40]⟩++strB t++⟨#[41]⟩)) (by simp [results,Tryz.results100,go_sem]) rfl ⟨by rw [brk_str],HB3.out⟩
 ·rw [if_neg hlt] at HW
  subst HW
  have hlt':¬ (L:Int)-1<lst:=by omega
  go_wp2_with fail
  refine ct.mono ?_
  clear ct c0 c1 c2 c3 c4
  rintro e w3 ⟨rfl,hb3⟩
  have HB3:Hid (Below w.heap.size w w3):=below_via' HB2.out hb3
  clear hb3
  go_wp2
  exact bodyPost_ret (v:=.string (strB Wt)) (by simp [results,Tryz.results100,go_sem]) rfl ⟨rfl,HB3.out⟩
theorem joinT_len (l:List Ez) (h:∀y∈l,(txE y).length≤lnE y):∀i,(joinT ((txL l).take i)).length≤lnL l:=by
 induction l with
 | nil=>intro i;simp [txL,joinT]
 | cons x xs ih =>
  intro i
  have hx:=h x (by simp)
  have ih':=ih (fun y hy=>h y (by simp [hy]))
  rw [txL,lnL]
  cases i with
  | zero=>simp [joinT]
  | succ i =>
   rw [List.take_succ_cons]
   have h2:=ih' i
   cases hc:(txL xs).take i with
   | nil=>simp only [joinT];omega
   | cons t r =>
    rw [hc] at h2
    simp only [joinT,List.length_append,List.length_cons,List.length_nil]
    omega
theorem cat_str (a b:List UInt8):(strB a++strB b:ByteArray)=strB (a++b):=strB_append a b
theorem sep_str (a:List UInt8):(strB a++⟨#[44,32]⟩:ByteArray)=strB (a++[44,32]):=strB_append a [44,32]
set_option maxHeartbeats 8000000 in
theorem listR_any (N:Nat) (hT:TextW N) (kids:List Ez) (base:Option Addr) (cap:Nat) (w:World) (hc:kids.length≤cap) (hmx:cap≤maxLen) (hd:dpL kids≤N) (hr:rgL kids=true) (hln:lnL kids≤1000000000000) (htl:∀y∈kids,(txE y).length≤lnE y)
  (hkid:∀i x,kids[i]?=some x→∃b o a1 a2 a3 a4 a5 a6 a7,base=some ⟨b,o,none⟩∧b<w.heap.size∧b<w.heap.size∧EzIn w.heap.size w x (ezV a1 a2 a3 a4 a5 a6 a7) ∧
   w.cell? ⟨b,o+i*5,none⟩=some (.int .i64 a1)∧w.cell? ⟨b,o+i*5+1,none⟩=some (.string (strB a2))∧w.cell? ⟨b,o+i*5+2,none⟩=some (.int .i64 a3)∧w.cell? ⟨b,o+i*5+3,none⟩=some (.slice a4 a5 a6)∧w.cell? ⟨b,o+i*5+4,none⟩=some (.int .i64 a7)) :
  Calls Tryz.prog 99 #[.slice base kids.length cap] w fun e w'=>e=.returned (.string (strB (joinT (txL kids))))∧Below w.heap.size w w':=by
 obtain ⟨m,hm⟩:∃m,m=kids.length:=⟨_,rfl⟩
 rw [←hm] at hc ⊢
 have hlen:m≤9223372036854775807:=by unfold maxLen at hmx;omega
 obtain ⟨R,hR⟩:∃R,R=joinT (txL kids):=⟨_,rfl⟩
 rw [←hR]
 have HJL:Hid (∀i,(joinT ((txL kids).take i)).length≤1000000000000):=fun i=>Nat.le_trans (joinT_len kids htl i) hln
 have HK:Hid (∀i y,kids[i]?=some y→∀W,Below w.heap.size w W→∃b o a1 a2 a3 a4 a5 a6 a7,base=some ⟨b,o,none⟩∧W.cell? ⟨b,o+i*5,none⟩=some (.int .i64 a1)∧W.cell? ⟨b,o+i*5+1,none⟩=some (.string (strB a2))∧W.cell? ⟨b,o+i*5+2,none⟩=some (.int .i64 a3)∧W.cell? ⟨b,o+i*5+3,none⟩=some (.slice a4 a5 a6)∧W.cell? ⟨b,o+i*5+4,none⟩=some (.int .i64 a7)∧(txE y).length≤1000000000000 ∧
   Calls Tryz.prog 55 #[ezV a1 a2 a3 a4 a5 a6 a7] W fun e w'=>e=.returned (.string (strB (txE y)))∧Below W.heap.size W w'):=fun i y hy W hbW=>by
  obtain ⟨b,o,a1,a2,a3,a4,a5,a6,a7,e,hb,hlt,hxy,m0,m1,m2,m3,m4⟩:=hkid i y hy
  have hym:=List.mem_of_getElem? hy
  have hyl:lnE y≤1000000000000:=by have:=lnL_get hy;omega
  exact ⟨b,o,a1,a2,a3,a4,a5,a6,a7,e,(hbW.cell (p:=⟨b,o+i*5,none⟩) hlt).trans m0,(hbW.cell (p:=⟨b,o+i*5+1,none⟩) hlt).trans m1,(hbW.cell (p:=⟨b,o+i*5+2,none⟩) hlt).trans m2,(hbW.cell (p:=⟨b,o+i*5+3,none⟩) hlt).trans m3,(hbW.cell (p:=⟨b,o+i*5+4,none⟩) hlt).trans m4,Nat.le_trans (htl y hym) hyl,
   hT y _ W (dpL_mem.1 hd y hym) (rgL_mem.1 hr y hym) hyl ((hxy.kept hbW).wide hbW.size)⟩
 have HM:Hid (m=kids.length):=hm
 have HR:Hid (R=joinT (txL kids)):=hR
 clear hkid hR hm hd hc hmx hr hln htl hT
 go_enter Tryz.func99,Tryz.ntmps99
 go_wp2_with fail
 go_loopw [3,4] (fun vs vi wr=>∃(i:Nat) (J:List UInt8),i≤m∧vi=.int .i64 (i:Int)∧vs=.string (strB J)∧J=joinT ((txL kids).take i)∧Below w.heap.size w wr) (fun _ vi _=>m-(intOf vi).toNat)
 case atStart=>exact ⟨0,[],Nat.zero_le _,rfl,rfl,rfl,Below.refl _ _⟩
 case round =>
  obtain ⟨i,J,hi,rfl,rfl,hJ,hbr⟩:=hrel
  have HBR:Hid (Below w.heap.size w wr):=hbr
  have hJl:J.length≤1000000000000:=by rw [hJ];exact HJL.out i
  have HJ:Hid (J=joinT ((txL kids).take i)):=hJ
  clear hbr hJ
  by_cases hlt:i<m
  ·have hlt':(i:Int)<(m:Int):=by omega
   obtain ⟨y,hy⟩:∃y,kids[i]?=some y:=⟨kids[i]'(by rw [←HM.out];exact hlt),List.getElem?_eq_getElem (by rw [←HM.out];exact hlt)⟩
   obtain ⟨b,o,a1,a2,a3,a4,a5,a6,a7,rfl,m0,m1,m2,m3,m4,htl,ck⟩:=HK.out i y hy wr HBR.out
   have HNX:Hid (J++((if i=0 then [] else [44,32])++txE y)=joinT ((txL kids).take (i+1))):=show _=_ by
    have ht:(txL kids).take (i+1)=(txL kids).take i++[txE y]:=by
     rw [txL_map,List.take_add_one,List.getElem?_map,hy];rfl
    have he:((txL kids).take i=[])↔i=0:=by
     rw [List.take_eq_nil_iff,txL_map]
     constructor
     ·rintro (h9 | h9)
      ·exact h9
      ·have:=List.map_eq_nil_iff.1 h9
       subst this
       simp at hy
     ·exact fun h9=>.inl h9
    rw [ht,joinT_snoc,HJ.out]
    by_cases h0:i=0
    ·rw [if_pos h0,if_pos (he.2 h0)]
    ·rw [if_neg h0,if_neg (fun h9=>h0 (he.1 h9))]
   clear hy HK HJ HJL HR
   generalize txE y=Y at *
   rcases Nat.eq_zero_or_pos i with h0 | h0
   ·subst h0
    rw [Nat.zero_mul,Nat.add_zero] at m0 m1 m2 m3 m4
    go_wp2_with fail
    refine ck.mono ?_
    clear ck m0 m1 m2 m3 m4
    rintro e w2 ⟨rfl,hb2⟩
    have HB2:Hid (Below w.heap.size w w2):=below_via' HBR.out hb2
    clear hb2 HBR
    go_wp2
    exact ⟨⟨1,J++Y,by omega,by go_num,by rw [cat_str],by have:=HNX.out;simpa using this,HB2.out⟩,by simp [intOf];omega⟩
   ·have h1:(0:Int)<(i:Int):=by omega
    go_wp2_with fail
    refine ck.mono ?_
    clear ck m0 m1 m2 m3 m4
    rintro e w2 ⟨rfl,hb2⟩
    have HB2:Hid (Below w.heap.size w w2):=below_via' HBR.out hb2
    clear hb2 HBR
    go_wp2
    exact ⟨⟨i+1,J++[44,32]++Y,by omega,by go_num,by rw [sep_str,cat_str],by have:=HNX.out;rw [if_neg (by omega)] at this;simpa using this,HB2.out⟩,by simp [intOf];omega⟩
  ·obtain rfl:i=m:=by omega
   have hlt':¬ (i:Int)<(i:Int):=by omega
   have HV:Hid (R=J):=show _=_ by
    rw [HR.out,HJ.out,List.take_of_length_le (by rw [txL_map,List.length_map,HM.out];exact Nat.le_refl _)]
   clear HR HK HJ HM HJL
   go_wp2
   exact bodyPost_ret (v:=.string (strB J)) (by simp [results,Tryz.results99,go_sem]) rfl ⟨by rw [HV.out],HBR.out⟩
end Go.Proofs.YtghhamgealkodaaGreatDoor
