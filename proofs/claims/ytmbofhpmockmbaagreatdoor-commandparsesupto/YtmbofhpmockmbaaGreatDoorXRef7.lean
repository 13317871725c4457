import Derived.Test.YtmbofhpmockmbaaGreatDoorMC43
namespace Go.Proofs.YtmbofhpmockmbaaGreatDoor
open Go.RowKit Go.Shelf
set_option maxHeartbeats 16000000
set_option maxRecDepth 100000
theorem Ye {ops:Array Oper} {rest:List Oper} {o:Oper} {a:Act} {w:World} {Q:Exit→Act→World→Prop} (hgd:o.guard=none) (s x:Operand)
  (ho:o.op=.call { callee:=.builtin .append,args:=#[s,x],argTypes:=#[133,133] })
  (B:Nat) (v:Value) (n:Nat) (xs:List Value) (hs:a.eval s=v) (hown:w.ownsRow B 142 5 v n xs) (g:Nat) (cs:List Value) (hx:a.eval x=.slice (some ⟨g,0,none⟩) 1 1)
  (hcs:cs.length=5) (hone:∀u∈cs,u.oneCell'=true) (hc:∀j u,cs[j]?=some u→w.cell? ((⟨g,0,none⟩:Addr).add j)=some u) (hb:n≤1000000) (hB:B≤w.heap.size)
  (h:∀e w',w'.ownsRow B 142 5 e (n+1) (xs++cs)→w.grownBy w' v.ownBlock→wpList Tryz.prog ops Q rest (a.put o.dst e) w'):wpList Tryz.prog ops Q (o::rest) a w:=by
 obtain ⟨i0,G,z,D,A⟩:=info_parts ut;refine wpList_append_own _ hgd s x 133 ho B 142 i0 _ 5 48 Tryz.underlying133 G z D A rfl (by decide) v n _ hs hown ⟨g,0,none⟩ 1 1 cs hx (by rw [hcs]) hc hone (by unfold maxLen;omega) (by omega) hB ?_
 intro e w' E y _;exact h e w' E y
theorem yO (ts:List Tk) (k n line at0:Nat) (s:List UInt8):zA (ts++[⟨k,s,n,line,at0⟩])=zA ts++[.int .i64 k,.string (za s),.int .i64 n,.int .i64 line,.int .i64 at0]:=by
 rw [YV];rfl
theorem US (l:List UInt8) (w:World) (hl:l.length≤4096) :
  Calls Tryz.prog 90 #[.string (za l)] w fun e w'=>∃(r:Value),e=.returned (.tuple #[r,.int .i64 (zp l).2.1,.int .i64 (zp l).2.2]) ∧
   w'.ownsRow w.heap.size 142 5 r (zp l).1.length (zA (zp l).1)∧Below w.heap.size w w':=by
 have aG:(za l).size=l.length:=rfl;have aC:decide ((4096:Int)<(l.length:Int))=false:=by simp;omega
 go_enter Tryz.func90,Tryz.ntmps90
 go_wp2
 go_loopw [5,6,7] (fun vo vl va wr=>∃(f line at0:Nat) (o:List Tk),vl=.int .i64 line∧va=.int .i64 at0∧at0≤l.length∧l.length<at0+f∧line≤at0+1∧o.length≤at0∧zp l=Z2 o (scanS l f line at0) ∧
   wr.ownsRow w.heap.size 142 5 vo o.length (zA o)∧Below w.heap.size w wr) (fun _ _ va _=>l.length-(intOf va).toNat)
 case atStart=>exact ⟨l.length+1,1,0,[],rfl,rfl,Nat.zero_le _,by omega,by omega,Nat.le_refl _,by unfold zp;rw [if_neg (by omega),q9],World.ownsRow_nil _ _ _ _,Below.refl _ _⟩
 case round =>
  obtain ⟨f,line,at0,o,rfl,rfl,aJ,hf,aF,aH,ar,aj,am⟩:=hrel;have z:Hid (zp l=Z2 o (scanS l f line at0)):=ar;have HO:Hid (wr.ownsRow w.heap.size 142 5 u5 o.length (zA o)):=aj;have HB:Hid (Below w.heap.size w wr):=am;have L:=am.size;clear ar aj am
  by_cases hlt:at0<l.length
  ·have I:=fun wx=>ZT wx l at0 hlt
   obtain ⟨c,hc⟩:∃c,c=(l[at0]).toNat:=⟨_,rfl⟩;rw [←hc] at I;have az:c<256:=by rw [hc];exact UInt8.toNat_lt _
   have HC:Hid (c=(l[at0]).toNat):=hc;clear hc
   by_cases h10:c=10
   ·have HN:Hid (zp l=Z2 o (scanS l f (line+1) (at0+1))):=by
     show _=_
     rw [z.out,Y1 f line hlt (by rw [←HC.out,h10];decide),if_pos (by rw [←HC.out];exact h10)]
    subst h10;go_wp2
    exact ⟨⟨f,line+1,at0+1,o,by go_num,by go_num,by omega,by omega,by omega,by omega,HN.out,HO.out,HB.out⟩,by simp [intOf];omega⟩
   ·have aD:((c:Int)==10)=false:=by rw [beq_eq_false_iff_ne];omega
    by_cases h32:c=32
    ·have HN:Hid (zp l=Z2 o (scanS l f line (at0+1))):=by
      show _=_
      rw [z.out,Y1 f line hlt (by rw [←HC.out,h32];decide),if_neg (by rw [←HC.out];exact h10)]
     subst h32;go_wp2
     exact ⟨⟨f,line,at0+1,o,by go_num,by go_num,by omega,by omega,by omega,by omega,HN.out,HO.out,HB.out⟩,by simp [intOf];omega⟩
    ·have aB:((c:Int)==32)=false:=by rw [beq_eq_false_iff_ne];omega
     by_cases h9:c=9
     ·have HN:Hid (zp l=Z2 o (scanS l f line (at0+1))):=by
       show _=_
       rw [z.out,Y1 f line hlt (by rw [←HC.out,h9];decide),if_neg (by rw [←HC.out];exact h10)]
      subst h9;go_wp2
      exact ⟨⟨f,line,at0+1,o,by go_num,by go_num,by omega,by omega,by omega,by omega,HN.out,HO.out,HB.out⟩,by simp [intOf];omega⟩
     ·have aI:((c:Int)==9)=false:=by rw [beq_eq_false_iff_ne];omega
      have al:zB c=false:=by unfold zB;simp [h10,h32,h9]
      have N:Hid (l.drop at0=l[at0]::l.drop (at0+1)):=List.drop_eq_getElem_cons hlt
      by_cases h47:c=47
      ·by_cases hend:at0+1<l.length
       ·have Y:=fun wx=>ZT wx l (at0+1) hend
        have e1:((at0+1:Nat):Int)=(at0:Int)+1:=by omega
        simp only [e1] at Y;have av:(at0:Int)+1<l.length:=by omega
        have af:Yg (l.drop at0)=decide ((l[at0+1]).toNat=47):=by
         rw [N.out,List.drop_eq_getElem_cons hend,x9,←HC.out,h47]
         simp
        obtain ⟨d,hd⟩:∃d,d=(l[at0+1]).toNat:=⟨_,rfl⟩;rw [←hd] at Y af;clear hd e1
        by_cases hd47:d=47
        ·have ai:Yg (l.drop at0)=true:=by rw [af];exact decide_eq_true hd47
         subst h47;subst hd47;clear af;generalize wr=w1 at *;go_wp2
         clear I Y
         go_loopw [7] (fun va wr=>∃k:Nat,va=.int .i64 ((at0:Int)+k)∧at0+k≤l.length∧(∀j (h:at0+j<l.length),j<k→zS (l[at0+j]).toNat=true)∧wr=w1) (fun va _=>l.length-(intOf va).toNat)
         case atStart=>exact ⟨0,by simp,by omega,fun j h hj=>by omega,rfl⟩
         case round =>
          obtain ⟨k,rfl,aq,ak,rfl⟩:=hrel;have an:Hid (∀j (h:at0+j<l.length),j<k→zS (l[at0+j]).toNat=true):=ak;clear ak
          by_cases hlt3:at0+k<l.length
          ·have I:=fun wx=>ZT wx l (at0+k) hlt3
           have e1:((at0+k:Nat):Int)=(at0:Int)+k:=by omega
           simp only [e1] at I;have aA:(at0:Int)+k<l.length:=by omega
           obtain ⟨d,hd⟩:∃d,d=(l[at0+k]).toNat:=⟨_,rfl⟩;rw [←hd] at I;have HD:Hid (d=(l[at0+k]).toNat):=hd;clear hd e1
           by_cases hd10:d=10
           ·have aa:Hid (Ze zS (l.drop at0)=k):=Xc (p:=fun c=>zS c.toNat) aq an.out (fun _=>by rw [←HD.out,hd10];rfl)
            subst hd10;have ae:=aa;have aw:2≤k:=by have:=yT ai;rw [ae.out] at this;exact this
            have HN:Hid (zp l=Z2 o (scanS l f line (at0+k))):=by
             show _=_
             rw [z.out,Vv f line ai,ae.out]
            go_wp2
            exact ⟨⟨f,line,at0+k,o,by go_num,by go_num,by omega,by omega,by omega,by omega,HN.out,HO.out,HB.out⟩,by simp [intOf];omega⟩
           ·have ax:((d:Int) != 10)=true:=by rw [bne_iff_ne];omega
            go_wp2
            refine ⟨⟨k+1,by go_num,by omega,fun j h hj=>?_,by first | rfl | trivial⟩,by simp [intOf];omega⟩
            by_cases hji:j<k
            ·exact an.out j h hji
            ·obtain rfl:j=k:=by omega
             rw [←HD.out];simp [zS,hd10]
          ·have aA:¬ (at0:Int)+k<l.length:=by omega
           have aa:Hid (Ze zS (l.drop at0)=k):=Xc (p:=fun c=>zS c.toNat) aq an.out (fun h=>absurd h (by omega))
           have ae:=aa;have aw:2≤k:=by have:=yT ai;rw [ae.out] at this;exact this
           have HN:Hid (zp l=Z2 o (scanS l f line (at0+k))):=by
            show _=_
            rw [z.out,Vv f line ai,ae.out]
           go_wp2
           exact ⟨⟨f,line,at0+k,o,by go_num,by go_num,by omega,by omega,by omega,by omega,HN.out,HO.out,HB.out⟩,by simp [intOf];omega⟩
        ·have ay:((d:Int)==47)=false:=by rw [beq_eq_false_iff_ne];omega
         have ah:Hid (Yg (l.drop at0)=false):=by show _=false;rw [af];exact decide_eq_false hd47
         clear af;subst h47;have Q:ZL (l.drop at0)=0:=by rw [N.out];exact X2 (by rw [←HC.out];exact al) (by rw [←N.out];exact ah.out)
         obtain ⟨J,rfl⟩:∃J,f=J+1:=⟨f-1,by omega⟩
         have y:=Xa J line o Q hlt;obtain ⟨R,hR⟩:∃R,R=zF (l.drop at0):=⟨_,rfl⟩;rw [←hR] at y;have ct:=YJ l at0 wr (by omega) hlt
         rw [←hR] at ct;have W:Hid (R.e≠0→zp l=([],at0,R.e)):=fun h=>z.out.trans (y.1 h)
         have V:Hid (R.e=0→zp l=Z2 (o++[⟨R.k,R.s,R.n,line,at0⟩]) (scanS l J line (at0+R.sz))∧1≤R.sz∧at0+R.sz≤l.length):=fun h=>⟨z.out.trans (y.2 h).1,(y.2 h).2⟩
         clear y hR Q z;go_wp2_with fail
         refine ct.mono ?_;clear ct I;rintro e w2 ⟨⟨v,rfl,K,M,X,s,rfl,O⟩,G⟩;have ad:Hid (R.e=0→K=R.k∧s=R.s∧M=R.n∧X=at0+R.sz):=O;have U:Hid (Below w.heap.size w w2):=HB.out.trans (G.mono L);have H:w.heap.size≤w2.heap.size:=Nat.le_trans L G.size;have T:Hid (w2.ownsRow w.heap.size 142 5 u5 o.length (zA o)):=yU HO.out (fun k cur hk=>G.block k (Array.getElem?_eq_some_iff.1 hk).1)
         unfold xu
         clear O G HO HB
         by_cases he:R.e=0
         ·obtain ⟨h1,h2,h3⟩:=V.out he
          obtain ⟨k1,k2,k3,k4⟩:=ad.out he
          have ab:Hid (zp l=Z2 (o++[⟨K,s,M,line,at0⟩]) (scanS l J line X)):=by
           show _=_
           rw [h1,k1,k2,k3,k4]
          have au:at0+1≤X:=by omega
          have ao:X≤l.length:=by omega
          rw [he];clear h1 h2 h3 k1 k2 k3 k4
          go_wp2_with (at_builtin;refine Ye rfl _ _ rfl w.heap.size _ o.length (zA o) rfl ((T.out.alloc _).alloc _) _ [.int .i64 K,.string (za s),.int .i64 M,.int .i64 line,.int .i64 at0] rfl rfl (by simp [Value.oneCell']) (fun j u hj=>by have h:=ZW (w2.alloc (.cells #[.int .i64 K,.string (za s),.int .i64 M,.int .i64 line,.int .i64 at0] 142)) _ 142 j u hj;rw [World.size_alloc] at h;exact h) (by omega) (by simp;omega) ?_;intro v4 w4 D A)
          have Z:Hid (Below w.heap.size w w4):=((U.out.alloc H _).alloc (by simp;omega) _).grown A (by simp;omega) (fun q hq=>(T.out.lt q hq).1)
          have ag:Hid (w4.ownsRow w.heap.size 142 5 v4 (o++[(⟨K,s,M,line,at0⟩:Tk)]).length (zA (o++[⟨K,s,M,line,at0⟩]))):=by
           show w4.ownsRow _ _ _ _ _ _
           rw [yO,List.length_append];exact D
          exact ⟨⟨J,line,X,o++[⟨K,s,M,line,at0⟩],by go_num,by go_num,by omega,by omega,by omega,by simp;omega,ab.out,ag.out,Z.out⟩,by simp [intOf];omega⟩
         ·have ap:((R.e:Int) != 0)=true:=by rw [bne_iff_ne];omega
          have HE:=W.out he;go_wp2
          refine bodyPost_ret (v:=.tuple #[.slice none 0 0,.int .i64 at0,.int .i64 R.e]) (by simp [results,Tryz.results90,go_sem]) rfl ⟨.slice none 0 0,by rw [HE],by rw [HE];exact World.ownsRow_nil _ _ _ _,?_⟩
          exact U.out.alloc H _
       ·have av:¬ (at0:Int)+1<l.length:=by omega
        have ah:Hid (Yg (l.drop at0)=false):=by
         show _=false
         rw [N.out,List.drop_of_length_le (by omega),x9]
         simp
        subst h47;have Q:ZL (l.drop at0)=0:=by rw [N.out];exact X2 (by rw [←HC.out];exact al) (by rw [←N.out];exact ah.out)
        obtain ⟨J,rfl⟩:∃J,f=J+1:=⟨f-1,by omega⟩
        have y:=Xa J line o Q hlt;obtain ⟨R,hR⟩:∃R,R=zF (l.drop at0):=⟨_,rfl⟩;rw [←hR] at y;have ct:=YJ l at0 wr (by omega) hlt
        rw [←hR] at ct;have W:Hid (R.e≠0→zp l=([],at0,R.e)):=fun h=>z.out.trans (y.1 h)
        have V:Hid (R.e=0→zp l=Z2 (o++[⟨R.k,R.s,R.n,line,at0⟩]) (scanS l J line (at0+R.sz))∧1≤R.sz∧at0+R.sz≤l.length):=fun h=>⟨z.out.trans (y.2 h).1,(y.2 h).2⟩
        clear y hR Q z;go_wp2_with fail
        refine ct.mono ?_;clear ct I;rintro e w2 ⟨⟨v,rfl,K,M,X,s,rfl,O⟩,G⟩;have ad:Hid (R.e=0→K=R.k∧s=R.s∧M=R.n∧X=at0+R.sz):=O;have U:Hid (Below w.heap.size w w2):=HB.out.trans (G.mono L);have H:w.heap.size≤w2.heap.size:=Nat.le_trans L G.size;have T:Hid (w2.ownsRow w.heap.size 142 5 u5 o.length (zA o)):=yU HO.out (fun k cur hk=>G.block k (Array.getElem?_eq_some_iff.1 hk).1)
        unfold xu
        clear O G HO HB
        by_cases he:R.e=0
        ·obtain ⟨h1,h2,h3⟩:=V.out he
         obtain ⟨k1,k2,k3,k4⟩:=ad.out he
         have ab:Hid (zp l=Z2 (o++[⟨K,s,M,line,at0⟩]) (scanS l J line X)):=by
          show _=_
          rw [h1,k1,k2,k3,k4]
         have au:at0+1≤X:=by omega
         have ao:X≤l.length:=by omega
         rw [he];clear h1 h2 h3 k1 k2 k3 k4
         go_wp2_with (at_builtin;refine Ye rfl _ _ rfl w.heap.size _ o.length (zA o) rfl ((T.out.alloc _).alloc _) _ [.int .i64 K,.string (za s),.int .i64 M,.int .i64 line,.int .i64 at0] rfl rfl (by simp [Value.oneCell']) (fun j u hj=>by have h:=ZW (w2.alloc (.cells #[.int .i64 K,.string (za s),.int .i64 M,.int .i64 line,.int .i64 at0] 142)) _ 142 j u hj;rw [World.size_alloc] at h;exact h) (by omega) (by simp;omega) ?_;intro v4 w4 D A)
         have Z:Hid (Below w.heap.size w w4):=((U.out.alloc H _).alloc (by simp;omega) _).grown A (by simp;omega) (fun q hq=>(T.out.lt q hq).1)
         have ag:Hid (w4.ownsRow w.heap.size 142 5 v4 (o++[(⟨K,s,M,line,at0⟩:Tk)]).length (zA (o++[⟨K,s,M,line,at0⟩]))):=by
          show w4.ownsRow _ _ _ _ _ _
          rw [yO,List.length_append];exact D
         exact ⟨⟨J,line,X,o++[⟨K,s,M,line,at0⟩],by go_num,by go_num,by omega,by omega,by omega,by simp;omega,ab.out,ag.out,Z.out⟩,by simp [intOf];omega⟩
        ·have ap:((R.e:Int) != 0)=true:=by rw [bne_iff_ne];omega
         have HE:=W.out he;go_wp2
         refine bodyPost_ret (v:=.tuple #[.slice none 0 0,.int .i64 at0,.int .i64 R.e]) (by simp [results,Tryz.results90,go_sem]) rfl ⟨.slice none 0 0,by rw [HE],by rw [HE];exact World.ownsRow_nil _ _ _ _,?_⟩
         exact U.out.alloc H _
      ·have aE:((c:Int)==47)=false:=by rw [beq_eq_false_iff_ne];omega
       have ah:Hid (Yg (l.drop at0)=false):=by
        show _=false
        rw [N.out,x9,←HC.out]
        simp [h47]
       have Q:ZL (l.drop at0)=0:=by rw [N.out];exact X2 (by rw [←HC.out];exact al) (by rw [←N.out];exact ah.out)
       obtain ⟨J,rfl⟩:∃J,f=J+1:=⟨f-1,by omega⟩
       have y:=Xa J line o Q hlt;obtain ⟨R,hR⟩:∃R,R=zF (l.drop at0):=⟨_,rfl⟩;rw [←hR] at y;have ct:=YJ l at0 wr (by omega) hlt
       rw [←hR] at ct;have W:Hid (R.e≠0→zp l=([],at0,R.e)):=fun h=>z.out.trans (y.1 h)
       have V:Hid (R.e=0→zp l=Z2 (o++[⟨R.k,R.s,R.n,line,at0⟩]) (scanS l J line (at0+R.sz))∧1≤R.sz∧at0+R.sz≤l.length):=fun h=>⟨z.out.trans (y.2 h).1,(y.2 h).2⟩
       clear y hR Q z;go_wp2_with fail
       refine ct.mono ?_;clear ct I;rintro e w2 ⟨⟨v,rfl,K,M,X,s,rfl,O⟩,G⟩;have ad:Hid (R.e=0→K=R.k∧s=R.s∧M=R.n∧X=at0+R.sz):=O;have U:Hid (Below w.heap.size w w2):=HB.out.trans (G.mono L);have H:w.heap.size≤w2.heap.size:=Nat.le_trans L G.size;have T:Hid (w2.ownsRow w.heap.size 142 5 u5 o.length (zA o)):=yU HO.out (fun k cur hk=>G.block k (Array.getElem?_eq_some_iff.1 hk).1)
       unfold xu
       clear O G HO HB
       by_cases he:R.e=0
       ·obtain ⟨h1,h2,h3⟩:=V.out he
        obtain ⟨k1,k2,k3,k4⟩:=ad.out he
        have ab:Hid (zp l=Z2 (o++[⟨K,s,M,line,at0⟩]) (scanS l J line X)):=by
         show _=_
         rw [h1,k1,k2,k3,k4]
        have au:at0+1≤X:=by omega
        have ao:X≤l.length:=by omega
        rw [he];clear h1 h2 h3 k1 k2 k3 k4
        go_wp2_with (at_builtin;refine Ye rfl _ _ rfl w.heap.size _ o.length (zA o) rfl ((T.out.alloc _).alloc _) _ [.int .i64 K,.string (za s),.int .i64 M,.int .i64 line,.int .i64 at0] rfl rfl (by simp [Value.oneCell']) (fun j u hj=>by have h:=ZW (w2.alloc (.cells #[.int .i64 K,.string (za s),.int .i64 M,.int .i64 line,.int .i64 at0] 142)) _ 142 j u hj;rw [World.size_alloc] at h;exact h) (by omega) (by simp;omega) ?_;intro v4 w4 D A)
        have Z:Hid (Below w.heap.size w w4):=((U.out.alloc H _).alloc (by simp;omega) _).grown A (by simp;omega) (fun q hq=>(T.out.lt q hq).1)
        have ag:Hid (w4.ownsRow w.heap.size 142 5 v4 (o++[(⟨K,s,M,line,at0⟩:Tk)]).length (zA (o++[⟨K,s,M,line,at0⟩]))):=by
         show w4.ownsRow _ _ _ _ _ _
         rw [yO,List.length_append];exact D
        exact ⟨⟨J,line,X,o++[⟨K,s,M,line,at0⟩],by go_num,by go_num,by omega,by omega,by omega,by simp;omega,ab.out,ag.out,Z.out⟩,by simp [intOf];omega⟩
       ·have ap:((R.e:Int) != 0)=true:=by rw [bne_iff_ne];omega
        have HE:=W.out he;go_wp2
        refine bodyPost_ret (v:=.tuple #[.slice none 0 0,.int .i64 at0,.int .i64 R.e]) (by simp [results,Tryz.results90,go_sem]) rfl ⟨.slice none 0 0,by rw [HE],by rw [HE];exact World.ownsRow_nil _ _ _ _,?_⟩
        exact U.out.alloc H _
  ·obtain rfl:at0=l.length:=by omega
   obtain ⟨J,rfl⟩:∃J,f=J+1:=⟨f-1,by omega⟩
   have HE:Hid (zp l=(o++[⟨0,[],0,line,l.length⟩],0,0)):=z.out.trans (Qa l J line o);clear z
   go_wp2_with (at_builtin;refine Ye rfl _ _ rfl w.heap.size _ o.length (zA o) rfl (HO.out.alloc _) _ [.int .i64 0,.string ⟨#[]⟩,.int .i64 0,.int .i64 line,.int .i64 l.length] rfl rfl (by simp [Value.oneCell']) (ZW _ _ _) (by omega) (by simp;omega) ?_;intro v4 w4 D A)
   have Z:Hid (Below w.heap.size w w4):=(HB.out.alloc L _).grown A (by simp;omega) (fun q hq=>(HO.out.lt q hq).1)
   have E:=HE.out;refine bodyPost_ret (v:=.tuple #[v4,.int .i64 0,.int .i64 0]) (by simp [results,Tryz.results90,go_sem]) rfl ⟨v4,by rw [E];rfl,?_,Z.out⟩
   rw [E];show w4.ownsRow _ _ _ _ (o++[_]).length _
   rw [yO,List.length_append];exact D
theorem uW (l:List UInt8) (w:World) :
  Calls Tryz.prog 90 #[.string (za l)] w fun e w'=>∃(r:Value),e=.returned (.tuple #[r,.int .i64 (zp l).2.1,.int .i64 (zp l).2.2]) ∧
   w'.ownsRow w.heap.size 142 5 r (zp l).1.length (zA (zp l).1)∧Below w.heap.size w w':=by
 by_cases h:4096<l.length
 ·have y:Hid (zp l=([],0,5)):=if_pos h
  have z:(za l).size=l.length:=rfl;have o:decide ((4096:Int)<(l.length:Int))=true:=by simp;omega
  go_enter Tryz.func90,Tryz.ntmps90
  go_wp2
  have E:=y.out;exact bodyPost_ret (v:=.tuple #[.slice none 0 0,.int .i64 0,.int .i64 5]) (by simp [results,Tryz.results90,go_sem]) rfl ⟨.slice none 0 0,by rw [E];rfl,by rw [E];exact World.ownsRow_nil _ _ _ _,Below.refl _ _⟩
 ·exact US l w (by omega)
end Go.Proofs.YtmbofhpmockmbaaGreatDoor
