import Derived.Test.YtdgpapchkpnijaaGreatDoorMC48
namespace Go.Proofs.YtdgpapchkpnijaaGreatDoor
open Go.RowKit Go.Shelf
set_option maxHeartbeats 16000000
set_option maxRecDepth 100000
theorem xE {ops:Array Oper} {rest:List Oper} {o:Oper} {a:Act} {w:World} {Q:Exit→Act→World→Prop} (hgd:o.guard=none) (s x:Operand)
  (ho:o.op=.call { callee:=.builtin .append,args:=#[s,x],argTypes:=#[61,61] })
  (B:Nat) (v:Value) (n:Nat) (xs:List Value) (hs:a.eval s=v) (hown:w.ownsRow B 69 5 v n xs) (g:Nat) (cs:List Value) (hx:a.eval x=.slice (some ⟨g,0,none⟩) 1 1)
  (hcs:cs.length=5) (hone:∀u∈cs,u.oneCell'=true) (hc:∀j u,cs[j]?=some u→w.cell? ((⟨g,0,none⟩:Addr).add j)=some u) (hb:n≤1000000) (hB:B≤w.heap.size)
  (h:∀v' w',w'.ownsRow B 69 5 v' (n+1) (xs++cs)→w.grownBy w' v.ownBlock→wpList Tryz.prog ops Q rest (a.put o.dst v') w'):wpList Tryz.prog ops Q (o::rest) a w:=by
 obtain ⟨i0,hi,hz0,hz1,hz2⟩:=info_parts qS;refine wpList_append_own _ hgd s x 61 ho B 69 i0 _ 5 48 Tryz.underlying61 hi hz0 hz1 hz2 rfl (by decide) v n _ hs hown ⟨g,0,none⟩ 1 1 cs hx (by rw [hcs]) hc hone (by unfold maxLen;omega) (by omega) hB ?_
 intro v' w' ho' hg' _;exact h v' w' ho' hg'
theorem Y1 (ts:List Tk) (k n line at0:Nat) (s:List UInt8):zO (ts++[⟨k,s,n,line,at0⟩])=zO ts++[.int .i64 k,.string (za s),.int .i64 n,.int .i64 line,.int .i64 at0]:=by
 rw [Xz];rfl
theorem za4 (l:List UInt8) (w:World) (hl:l.length≤4096) :
  Calls Tryz.prog 27 #[.string (za l)] w fun e w'=>∃(r:Value),e=.returned (.tuple #[r,.int .i64 (zv l).2.1,.int .i64 (zv l).2.2]) ∧
   w'.ownsRow w.heap.size 69 5 r (zv l).1.length (zO (zv l).1)∧Below w.heap.size w w':=by
 have hsz:(za l).size=l.length:=rfl;have hbig:decide ((4096:Int)<(l.length:Int))=false:=by simp;omega
 go_enter Tryz.func27,Tryz.ntmps27
 go_wp2
 go_loopw [5,6,7] (fun vo vl va wr=>∃(f line at0:Nat) (pre:List Tk),vl=.int .i64 line∧va=.int .i64 at0∧at0≤l.length∧l.length<at0+f∧line≤at0+1∧pre.length≤at0∧zv l=yY pre (scanS l f line at0) ∧
   wr.ownsRow w.heap.size 69 5 vo pre.length (zO pre)∧Below w.heap.size w wr) (fun _ _ va _=>l.length-(intOf va).toNat)
 case atStart=>exact ⟨l.length+1,1,0,[],rfl,rfl,Nat.zero_le _,by omega,by omega,Nat.le_refl _,by unfold zv;rw [if_neg (by omega),zbP],World.ownsRow_nil _ _ _ _,Below.refl _ _⟩
 case round =>
  obtain ⟨f,line,at0,pre,rfl,rfl,hat,hf,hln,hpn,hsc,hown,hbw⟩:=hrel;have HSC:Hid (zv l=yY pre (scanS l f line at0)):=hsc;have HO:Hid (wr.ownsRow w.heap.size 69 5 u5 pre.length (zO pre)):=hown;have HB:Hid (Below w.heap.size w wr):=hbw;have hszw:=hbw.size;clear hsc hown hbw
  by_cases hlt:at0<l.length
  ·have hidx:=fun wx=>yT wx l at0 hlt
   obtain ⟨c,hc⟩:∃c,c=(l[at0]).toNat:=⟨_,rfl⟩;rw [←hc] at hidx;have hc256:c<256:=by rw [hc];exact UInt8.toNat_lt _
   have HC:Hid (c=(l[at0]).toNat):=hc;clear hc
   by_cases h10:c=10
   ·have HN:Hid (zv l=yY pre (scanS l f (line+1) (at0+1))):=by
     show _=_
     rw [HSC.out,XA f line hlt (by rw [←HC.out,h10];decide),if_pos (by rw [←HC.out];exact h10)]
    subst h10;go_wp2
    exact ⟨⟨f,line+1,at0+1,pre,by go_num,by go_num,by omega,by omega,by omega,by omega,HN.out,HO.out,HB.out⟩,by simp [intOf];omega⟩
   ·have h10b:((c:Int)==10)=false:=by rw [beq_eq_false_iff_ne];omega
    by_cases h32:c=32
    ·have HN:Hid (zv l=yY pre (scanS l f line (at0+1))):=by
      show _=_
      rw [HSC.out,XA f line hlt (by rw [←HC.out,h32];decide),if_neg (by rw [←HC.out];exact h10)]
     subst h32;go_wp2
     exact ⟨⟨f,line,at0+1,pre,by go_num,by go_num,by omega,by omega,by omega,by omega,HN.out,HO.out,HB.out⟩,by simp [intOf];omega⟩
    ·have h32b:((c:Int)==32)=false:=by rw [beq_eq_false_iff_ne];omega
     by_cases h9:c=9
     ·have HN:Hid (zv l=yY pre (scanS l f line (at0+1))):=by
       show _=_
       rw [HSC.out,XA f line hlt (by rw [←HC.out,h9];decide),if_neg (by rw [←HC.out];exact h10)]
      subst h9;go_wp2
      exact ⟨⟨f,line,at0+1,pre,by go_num,by go_num,by omega,by omega,by omega,by omega,HN.out,HO.out,HB.out⟩,by simp [intOf];omega⟩
     ·have h9b:((c:Int)==9)=false:=by rw [beq_eq_false_iff_ne];omega
      have hbl:zX c=false:=by unfold zX;simp [h10,h32,h9]
      have HDC:Hid (l.drop at0=l[at0]::l.drop (at0+1)):=List.drop_eq_getElem_cons hlt
      by_cases h47:c=47
      ·by_cases hend:at0+1<l.length
       ·have hidx2:=fun wx=>yT wx l (at0+1) hend
        have e1:((at0+1:Nat):Int)=(at0:Int)+1:=by omega
        simp only [e1] at hidx2;have hi2:(at0:Int)+1<l.length:=by omega
        have hrq:xF (l.drop at0)=decide ((l[at0+1]).toNat=47):=by
         rw [HDC.out,List.drop_eq_getElem_cons hend,Vo,←HC.out,h47]
         simp
        obtain ⟨d,hd⟩:∃d,d=(l[at0+1]).toNat:=⟨_,rfl⟩;rw [←hd] at hidx2 hrq;clear hd e1
        by_cases hd47:d=47
        ·have hrm:xF (l.drop at0)=true:=by rw [hrq];exact decide_eq_true hd47
         subst h47;subst hd47;clear hrq;generalize wr=w1 at *;go_wp2
         clear hidx hidx2
         go_loopw [7] (fun va wr=>∃k:Nat,va=.int .i64 ((at0:Int)+k)∧at0+k≤l.length∧(∀j (h:at0+j<l.length),j<k→Zt (l[at0+j]).toNat=true)∧wr=w1) (fun va _=>l.length-(intOf va).toNat)
         case atStart=>exact ⟨0,by simp,by omega,fun j h hj=>by omega,rfl⟩
         case round =>
          obtain ⟨k,rfl,hk2,hall,rfl⟩:=hrel;have HAL:Hid (∀j (h:at0+j<l.length),j<k→Zt (l[at0+j]).toNat=true):=hall;clear hall
          by_cases hlt3:at0+k<l.length
          ·have hidx:=fun wx=>yT wx l (at0+k) hlt3
           have e1:((at0+k:Nat):Int)=(at0:Int)+k:=by omega
           simp only [e1] at hidx;have hi3:(at0:Int)+k<l.length:=by omega
           obtain ⟨d,hd⟩:∃d,d=(l[at0+k]).toNat:=⟨_,rfl⟩;rw [←hd] at hidx;have HD:Hid (d=(l[at0+k]).toNat):=hd;clear hd e1
           by_cases hd10:d=10
           ·have HLEN:Hid (ZU Zt (l.drop at0)=k):=VC (p:=fun c=>Zt c.toNat) hk2 HAL.out (fun _=>by rw [←HD.out,hd10];rfl)
            subst hd10;have HRN:=HLEN;have hk1:2≤k:=by have:=Y5 hrm;rw [HRN.out] at this;exact this
            have HN:Hid (zv l=yY pre (scanS l f line (at0+k))):=by
             show _=_
             rw [HSC.out,UH f line hrm,HRN.out]
            go_wp2
            exact ⟨⟨f,line,at0+k,pre,by go_num,by go_num,by omega,by omega,by omega,by omega,HN.out,HO.out,HB.out⟩,by simp [intOf];omega⟩
           ·have hd10b:((d:Int) != 10)=true:=by rw [bne_iff_ne];omega
            go_wp2
            refine ⟨⟨k+1,by go_num,by omega,fun j h hj=>?_,by first | rfl | trivial⟩,by simp [intOf];omega⟩
            by_cases hji:j<k
            ·exact HAL.out j h hji
            ·obtain rfl:j=k:=by omega
             rw [←HD.out];simp [Zt,hd10]
          ·have hi3:¬ (at0:Int)+k<l.length:=by omega
           have HLEN:Hid (ZU Zt (l.drop at0)=k):=VC (p:=fun c=>Zt c.toNat) hk2 HAL.out (fun h=>absurd h (by omega))
           have HRN:=HLEN;have hk1:2≤k:=by have:=Y5 hrm;rw [HRN.out] at this;exact this
           have HN:Hid (zv l=yY pre (scanS l f line (at0+k))):=by
            show _=_
            rw [HSC.out,UH f line hrm,HRN.out]
           go_wp2
           exact ⟨⟨f,line,at0+k,pre,by go_num,by go_num,by omega,by omega,by omega,by omega,HN.out,HO.out,HB.out⟩,by simp [intOf];omega⟩
        ·have hd47b:((d:Int)==47)=false:=by rw [beq_eq_false_iff_ne];omega
         have HRM:Hid (xF (l.drop at0)=false):=by show _=false;rw [hrq];exact decide_eq_false hd47
         clear hrq;subst h47;have hg0:yA (l.drop at0)=0:=by rw [HDC.out];exact um (by rw [←HC.out];exact hbl) (by rw [←HDC.out];exact HRM.out)
         obtain ⟨f',rfl⟩:∃f',f=f'+1:=⟨f-1,by omega⟩
         have HTK:=Vp f' line pre hg0 hlt;obtain ⟨R,hR⟩:∃R,R=zR (l.drop at0):=⟨_,rfl⟩;rw [←hR] at HTK;have ct:=Xs l at0 wr (by omega) hlt
         rw [←hR] at ct;have HTK1:Hid (R.e≠0→zv l=([],at0,R.e)):=fun h=>HSC.out.trans (HTK.1 h)
         have HTK2:Hid (R.e=0→zv l=yY (pre++[⟨R.k,R.s,R.n,line,at0⟩]) (scanS l f' line (at0+R.sz))∧1≤R.sz∧at0+R.sz≤l.length):=fun h=>⟨HSC.out.trans (HTK.2 h).1,(HTK.2 h).2⟩
         clear HTK hR hg0 HSC;go_wp2_with fail
         refine ct.mono ?_;clear ct hidx;rintro e w2 ⟨⟨v,rfl,K,N',X,s,rfl,hok⟩,hb2⟩;have HOK:Hid (R.e=0→K=R.k∧s=R.s∧N'=R.n∧X=at0+R.sz):=hok;have HB2:Hid (Below w.heap.size w w2):=HB.out.trans (hb2.mono hszw);have hsz2:w.heap.size≤w2.heap.size:=Nat.le_trans hszw hb2.size;have HO2:Hid (w2.ownsRow w.heap.size 69 5 u5 pre.length (zO pre)):=Y6 HO.out (fun k cur hk=>hb2.block k (Array.getElem?_eq_some_iff.1 hk).1)
         unfold X9
         clear hok hb2 HO HB
         by_cases he:R.e=0
         ·obtain ⟨h1,h2,h3⟩:=HTK2.out he
          obtain ⟨k1,k2,k3,k4⟩:=HOK.out he
          have HSN:Hid (zv l=yY (pre++[⟨K,s,N',line,at0⟩]) (scanS l f' line X)):=by
           show _=_
           rw [h1,k1,k2,k3,k4]
          have hX1:at0+1≤X:=by omega
          have hX2:X≤l.length:=by omega
          rw [he];clear h1 h2 h3 k1 k2 k3 k4
          go_wp2_with (at_builtin;refine xE rfl _ _ rfl w.heap.size _ pre.length (zO pre) rfl ((HO2.out.alloc _).alloc _) _ [.int .i64 K,.string (za s),.int .i64 N',.int .i64 line,.int .i64 at0] rfl rfl (by simp [Value.oneCell']) (fun j u hj=>by have h:=Zn (w2.alloc (.cells #[.int .i64 K,.string (za s),.int .i64 N',.int .i64 line,.int .i64 at0] 69)) _ 69 j u hj;rw [World.size_alloc] at h;exact h) (by omega) (by simp;omega) ?_;intro v4 w4 hown4 hgrow)
          have HB4:Hid (Below w.heap.size w w4):=((HB2.out.alloc hsz2 _).alloc (by simp;omega) _).grown hgrow (by simp;omega) (fun q hq=>(HO2.out.lt q hq).1)
          have HO4:Hid (w4.ownsRow w.heap.size 69 5 v4 (pre++[(⟨K,s,N',line,at0⟩:Tk)]).length (zO (pre++[⟨K,s,N',line,at0⟩]))):=by
           show w4.ownsRow _ _ _ _ _ _
           rw [Y1,List.length_append];exact hown4
          exact ⟨⟨f',line,X,pre++[⟨K,s,N',line,at0⟩],by go_num,by go_num,by omega,by omega,by omega,by simp;omega,HSN.out,HO4.out,HB4.out⟩,by simp [intOf];omega⟩
         ·have heb:((R.e:Int) != 0)=true:=by rw [bne_iff_ne];omega
          have HE:=HTK1.out he;go_wp2
          refine bodyPost_ret (v:=.tuple #[.slice none 0 0,.int .i64 at0,.int .i64 R.e]) (by simp [results,Tryz.results27,go_sem]) rfl ⟨.slice none 0 0,by rw [HE],by rw [HE];exact World.ownsRow_nil _ _ _ _,?_⟩
          exact HB2.out.alloc hsz2 _
       ·have hi2:¬ (at0:Int)+1<l.length:=by omega
        have HRM:Hid (xF (l.drop at0)=false):=by
         show _=false
         rw [HDC.out,List.drop_of_length_le (by omega),Vo]
         simp
        subst h47;have hg0:yA (l.drop at0)=0:=by rw [HDC.out];exact um (by rw [←HC.out];exact hbl) (by rw [←HDC.out];exact HRM.out)
        obtain ⟨f',rfl⟩:∃f',f=f'+1:=⟨f-1,by omega⟩
        have HTK:=Vp f' line pre hg0 hlt;obtain ⟨R,hR⟩:∃R,R=zR (l.drop at0):=⟨_,rfl⟩;rw [←hR] at HTK;have ct:=Xs l at0 wr (by omega) hlt
        rw [←hR] at ct;have HTK1:Hid (R.e≠0→zv l=([],at0,R.e)):=fun h=>HSC.out.trans (HTK.1 h)
        have HTK2:Hid (R.e=0→zv l=yY (pre++[⟨R.k,R.s,R.n,line,at0⟩]) (scanS l f' line (at0+R.sz))∧1≤R.sz∧at0+R.sz≤l.length):=fun h=>⟨HSC.out.trans (HTK.2 h).1,(HTK.2 h).2⟩
        clear HTK hR hg0 HSC;go_wp2_with fail
        refine ct.mono ?_;clear ct hidx;rintro e w2 ⟨⟨v,rfl,K,N',X,s,rfl,hok⟩,hb2⟩;have HOK:Hid (R.e=0→K=R.k∧s=R.s∧N'=R.n∧X=at0+R.sz):=hok;have HB2:Hid (Below w.heap.size w w2):=HB.out.trans (hb2.mono hszw);have hsz2:w.heap.size≤w2.heap.size:=Nat.le_trans hszw hb2.size;have HO2:Hid (w2.ownsRow w.heap.size 69 5 u5 pre.length (zO pre)):=Y6 HO.out (fun k cur hk=>hb2.block k (Array.getElem?_eq_some_iff.1 hk).1)
        unfold X9
        clear hok hb2 HO HB
        by_cases he:R.e=0
        ·obtain ⟨h1,h2,h3⟩:=HTK2.out he
         obtain ⟨k1,k2,k3,k4⟩:=HOK.out he
         have HSN:Hid (zv l=yY (pre++[⟨K,s,N',line,at0⟩]) (scanS l f' line X)):=by
          show _=_
          rw [h1,k1,k2,k3,k4]
         have hX1:at0+1≤X:=by omega
         have hX2:X≤l.length:=by omega
         rw [he];clear h1 h2 h3 k1 k2 k3 k4
         go_wp2_with (at_builtin;refine xE rfl _ _ rfl w.heap.size _ pre.length (zO pre) rfl ((HO2.out.alloc _).alloc _) _ [.int .i64 K,.string (za s),.int .i64 N',.int .i64 line,.int .i64 at0] rfl rfl (by simp [Value.oneCell']) (fun j u hj=>by have h:=Zn (w2.alloc (.cells #[.int .i64 K,.string (za s),.int .i64 N',.int .i64 line,.int .i64 at0] 69)) _ 69 j u hj;rw [World.size_alloc] at h;exact h) (by omega) (by simp;omega) ?_;intro v4 w4 hown4 hgrow)
         have HB4:Hid (Below w.heap.size w w4):=((HB2.out.alloc hsz2 _).alloc (by simp;omega) _).grown hgrow (by simp;omega) (fun q hq=>(HO2.out.lt q hq).1)
         have HO4:Hid (w4.ownsRow w.heap.size 69 5 v4 (pre++[(⟨K,s,N',line,at0⟩:Tk)]).length (zO (pre++[⟨K,s,N',line,at0⟩]))):=by
          show w4.ownsRow _ _ _ _ _ _
          rw [Y1,List.length_append];exact hown4
         exact ⟨⟨f',line,X,pre++[⟨K,s,N',line,at0⟩],by go_num,by go_num,by omega,by omega,by omega,by simp;omega,HSN.out,HO4.out,HB4.out⟩,by simp [intOf];omega⟩
        ·have heb:((R.e:Int) != 0)=true:=by rw [bne_iff_ne];omega
         have HE:=HTK1.out he;go_wp2
         refine bodyPost_ret (v:=.tuple #[.slice none 0 0,.int .i64 at0,.int .i64 R.e]) (by simp [results,Tryz.results27,go_sem]) rfl ⟨.slice none 0 0,by rw [HE],by rw [HE];exact World.ownsRow_nil _ _ _ _,?_⟩
         exact HB2.out.alloc hsz2 _
      ·have h47b:((c:Int)==47)=false:=by rw [beq_eq_false_iff_ne];omega
       have HRM:Hid (xF (l.drop at0)=false):=by
        show _=false
        rw [HDC.out,Vo,←HC.out]
        simp [h47]
       have hg0:yA (l.drop at0)=0:=by rw [HDC.out];exact um (by rw [←HC.out];exact hbl) (by rw [←HDC.out];exact HRM.out)
       obtain ⟨f',rfl⟩:∃f',f=f'+1:=⟨f-1,by omega⟩
       have HTK:=Vp f' line pre hg0 hlt;obtain ⟨R,hR⟩:∃R,R=zR (l.drop at0):=⟨_,rfl⟩;rw [←hR] at HTK;have ct:=Xs l at0 wr (by omega) hlt
       rw [←hR] at ct;have HTK1:Hid (R.e≠0→zv l=([],at0,R.e)):=fun h=>HSC.out.trans (HTK.1 h)
       have HTK2:Hid (R.e=0→zv l=yY (pre++[⟨R.k,R.s,R.n,line,at0⟩]) (scanS l f' line (at0+R.sz))∧1≤R.sz∧at0+R.sz≤l.length):=fun h=>⟨HSC.out.trans (HTK.2 h).1,(HTK.2 h).2⟩
       clear HTK hR hg0 HSC;go_wp2_with fail
       refine ct.mono ?_;clear ct hidx;rintro e w2 ⟨⟨v,rfl,K,N',X,s,rfl,hok⟩,hb2⟩;have HOK:Hid (R.e=0→K=R.k∧s=R.s∧N'=R.n∧X=at0+R.sz):=hok;have HB2:Hid (Below w.heap.size w w2):=HB.out.trans (hb2.mono hszw);have hsz2:w.heap.size≤w2.heap.size:=Nat.le_trans hszw hb2.size;have HO2:Hid (w2.ownsRow w.heap.size 69 5 u5 pre.length (zO pre)):=Y6 HO.out (fun k cur hk=>hb2.block k (Array.getElem?_eq_some_iff.1 hk).1)
       unfold X9
       clear hok hb2 HO HB
       by_cases he:R.e=0
       ·obtain ⟨h1,h2,h3⟩:=HTK2.out he
        obtain ⟨k1,k2,k3,k4⟩:=HOK.out he
        have HSN:Hid (zv l=yY (pre++[⟨K,s,N',line,at0⟩]) (scanS l f' line X)):=by
         show _=_
         rw [h1,k1,k2,k3,k4]
        have hX1:at0+1≤X:=by omega
        have hX2:X≤l.length:=by omega
        rw [he];clear h1 h2 h3 k1 k2 k3 k4
        go_wp2_with (at_builtin;refine xE rfl _ _ rfl w.heap.size _ pre.length (zO pre) rfl ((HO2.out.alloc _).alloc _) _ [.int .i64 K,.string (za s),.int .i64 N',.int .i64 line,.int .i64 at0] rfl rfl (by simp [Value.oneCell']) (fun j u hj=>by have h:=Zn (w2.alloc (.cells #[.int .i64 K,.string (za s),.int .i64 N',.int .i64 line,.int .i64 at0] 69)) _ 69 j u hj;rw [World.size_alloc] at h;exact h) (by omega) (by simp;omega) ?_;intro v4 w4 hown4 hgrow)
        have HB4:Hid (Below w.heap.size w w4):=((HB2.out.alloc hsz2 _).alloc (by simp;omega) _).grown hgrow (by simp;omega) (fun q hq=>(HO2.out.lt q hq).1)
        have HO4:Hid (w4.ownsRow w.heap.size 69 5 v4 (pre++[(⟨K,s,N',line,at0⟩:Tk)]).length (zO (pre++[⟨K,s,N',line,at0⟩]))):=by
         show w4.ownsRow _ _ _ _ _ _
         rw [Y1,List.length_append];exact hown4
        exact ⟨⟨f',line,X,pre++[⟨K,s,N',line,at0⟩],by go_num,by go_num,by omega,by omega,by omega,by simp;omega,HSN.out,HO4.out,HB4.out⟩,by simp [intOf];omega⟩
       ·have heb:((R.e:Int) != 0)=true:=by rw [bne_iff_ne];omega
        have HE:=HTK1.out he;go_wp2
        refine bodyPost_ret (v:=.tuple #[.slice none 0 0,.int .i64 at0,.int .i64 R.e]) (by simp [results,Tryz.results27,go_sem]) rfl ⟨.slice none 0 0,by rw [HE],by rw [HE];exact World.ownsRow_nil _ _ _ _,?_⟩
        exact HB2.out.alloc hsz2 _
  ·obtain rfl:at0=l.length:=by omega
   obtain ⟨f',rfl⟩:∃f',f=f'+1:=⟨f-1,by omega⟩
   have HE:Hid (zv l=(pre++[⟨0,[],0,line,l.length⟩],0,0)):=HSC.out.trans (zbQ l f' line pre);clear HSC
   go_wp2_with (at_builtin;refine xE rfl _ _ rfl w.heap.size _ pre.length (zO pre) rfl (HO.out.alloc _) _ [.int .i64 0,.string ⟨#[]⟩,.int .i64 0,.int .i64 line,.int .i64 l.length] rfl rfl (by simp [Value.oneCell']) (Zn _ _ _) (by omega) (by simp;omega) ?_;intro v4 w4 hown4 hgrow)
   have HB4:Hid (Below w.heap.size w w4):=(HB.out.alloc hszw _).grown hgrow (by simp;omega) (fun q hq=>(HO.out.lt q hq).1)
   have E:=HE.out;refine bodyPost_ret (v:=.tuple #[v4,.int .i64 0,.int .i64 0]) (by simp [results,Tryz.results27,go_sem]) rfl ⟨v4,by rw [E];rfl,?_,HB4.out⟩
   rw [E];show w4.ownsRow _ _ _ _ (pre++[_]).length _
   rw [Y1,List.length_append];exact hown4
theorem Q1 (l:List UInt8) (w:World) :
  Calls Tryz.prog 27 #[.string (za l)] w fun e w'=>∃(r:Value),e=.returned (.tuple #[r,.int .i64 (zv l).2.1,.int .i64 (zv l).2.2]) ∧
   w'.ownsRow w.heap.size 69 5 r (zv l).1.length (zO (zv l).1)∧Below w.heap.size w w':=by
 by_cases h:4096<l.length
 ·have HS:Hid (zv l=([],0,5)):=if_pos h
  have hsz:(za l).size=l.length:=rfl;have hbig:decide ((4096:Int)<(l.length:Int))=true:=by simp;omega
  go_enter Tryz.func27,Tryz.ntmps27
  go_wp2
  have E:=HS.out;exact bodyPost_ret (v:=.tuple #[.slice none 0 0,.int .i64 0,.int .i64 5]) (by simp [results,Tryz.results27,go_sem]) rfl ⟨.slice none 0 0,by rw [E];rfl,by rw [E];exact World.ownsRow_nil _ _ _ _,Below.refl _ _⟩
 ·exact za4 l w (by omega)
end Go.Proofs.YtdgpapchkpnijaaGreatDoor
