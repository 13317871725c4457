import Derived.Test.YtdgpapchkpnijaaGreatDoorMC18
import Derived.Test.YtdgpapchkpnijaaGreatDoorMC19
import Derived.Test.YtdgpapchkpnijaaGreatDoorMC21
import Derived.Deep.RegionWith
import Derived.Deep.DeepCutAuto
import Derived.Deep.CutRange
import Derived.Test.YtdgpapchkpnijaaGreatDoorSStatement
namespace Go.Proofs.YtdgpapchkpnijaaGreatDoor
open Go.RowKit Go.Shelf
set_option maxHeartbeats 16000000
set_option maxRecDepth 100000
structure Vx (r g f:Nat):Prop where
 between:∀least w o cap ts res,zh f least ts=some res→zk ts→zg r g o cap ts w→Zy w→Calls Tryz.prog 74 #[.pointer (some ⟨r,0,none⟩),.int .i64 (least:Nat)] w (zI r g w res)
 unary:∀w o cap ts res,Zw f ts=some res→zk ts→zg r g o cap ts w→Zy w→Calls Tryz.prog 115 #[.pointer (some ⟨r,0,none⟩)] w (zI r g w res)
 single:∀w o cap ts res,zP f ts=some res→zk ts→zg r g o cap ts w→Zy w→Calls Tryz.prog 176 #[.pointer (some ⟨r,0,none⟩)] w (zI r g w res)
 row:∀w o cap ts res,yy f [] ts=some res→zk ts→zg r g o cap ts w→Zy w→Calls Tryz.prog 197 #[.pointer (some ⟨r,0,none⟩),.func (.func 36) #[.pointer (some ⟨r,0,none⟩)] #[]] w (XZ r g w res)
 brackets:∀w o cap ts res,zK f ts=some res→zk ts→zg r g o cap ts w→Zy w→Calls Tryz.prog 196 #[.pointer (some ⟨r,0,none⟩),.func (.func 36) #[.pointer (some ⟨r,0,none⟩)] #[]] w (XZ r g w res)
theorem Vx.expr {r g f:Nat} (C:Vx r g f) (hrl:r≠1) (w:World) (o cap:Nat) (ts:List Tk) (res:PR Ex) (hp:zh f 1 ts=some res) (hE:zk ts) (h:zg r g o cap ts w) (hl:Zy w) :
  Calls Tryz.prog 36 #[.pointer (some ⟨r,0,none⟩)] w (zI r g w res):=by
 obtain ⟨t,us,rfl⟩:=hE.cons;exact zez r g w res h.lt.1 h.lt.2 (C.between 1 _ o cap _ res hp hE (h.alloc _) (hl.kept ((zb.refl r w).alloc _) hrl))
theorem Yw {α β:Type} {x:Option (PR α)} {k:α→List Tk→Option (PR β)} {r:PR β} (h:zn x k=some r):∃r1,x=some r1:=by
 cases x with
 | none=>cases h
 | some r1=>exact ⟨r1,rfl⟩
theorem Vx.next {r g f:Nat} (hrl:r≠1) (C:Vx r g f)
  (HB:∀o cap least ts w res,zg r g o cap ts w→zk ts→Zy w→least≤6→zh (f+1) least ts=some res→Calls Tryz.prog 74 #[.pointer (some ⟨r,0,none⟩),.int .i64 (least:Nat)] w (zI r g w res))
  (HW:∀o cap ts w res,zg r g o cap ts w→zk ts→Zy w→zn (zP f ts) (fun e ts=>zH f e ts)=some res→Calls Tryz.prog 145 #[.pointer (some ⟨r,0,none⟩)] w (zI r g w res)):Vx r g (f+1) where
 between:=fun least w o cap ts res hp hE h hl=>by
  by_cases h6:6<least
  ·obtain ⟨t,us,rfl⟩:=hE.cons
   rw [zh,if_pos h6] at hp;exact zaw r g least w res h.lt.1 h.lt.2 h6 (C.unary _ o cap _ res hp hE (h.alloc _) (hl.kept ((zb.refl r w).alloc _) hrl))
  ·exact HB o cap least ts w res h hE hl (by omega) hp
 unary:=fun w o cap ts res hp hE h hl=>by
  obtain ⟨t,us,rfl⟩:=hE.cons;rw [Zw] at hp;simp only [zC,List.tail_cons] at hp
  by_cases hs:t.k=4∧(t.s=[45]∨t.s=[33])
  ·rw [if_pos hs] at hp
   obtain ⟨r1,h1⟩:=Yw hp;have hE1:=hE.tail (by omega:t.k≠0)
   have hc:=qg r g o cap t us w r1 h hE hs.1 (by simpa using hs.2) fun w1 o1 cap1 hR hK=>C.unary w1 o1 cap1 us r1 h1 hE1 hR (hl.kept hK hrl)
   have hr:uu t r1=res:=by
    rw [h1] at hp;rcases r1 with a | ⟨x,vs⟩ <;> simpa [zn,uu] using hp
   rw [←hr];exact hc
  ·rw [if_neg hs] at hp
   exact Qj r g o cap t us w res h hs fun w1 hR hK=>HW o cap _ w1 res hR hE (hl.kept hK hrl) hp
 row:=fun w o cap ts res hp hE h hl=>zfo r g o cap f ts w res h hE h.few hp fun w1 o1 cap1 ts1 r1 hb hE1 _ hR hK=>C.expr hrl w1 o1 cap1 ts1 r1 hb hE1 hR (hl.kept hK hrl)
 brackets:=fun w o cap ts res hp hE h hl=>by
  obtain ⟨t,us,rfl⟩:=hE.cons;rw [zK] at hp;simp only [zV,zC,List.tail_cons] at hp
  by_cases hi:zo t [40]=true
  ·rw [if_pos hi] at hp
   simp only [zn] at hp;have hE1:=hE.tail (zi hi)
   by_cases hj:zo (zz us) [41]=true
   ·rw [if_pos hj] at hp
    have hr:Yc t us (.error 0)=res:=by unfold Yc;rw [if_pos hi,if_pos hj];simpa using hp
    rw [←hr];exact vx r g o cap _ t us w (.error 0) h hE (fun _ _ h=>by cases h) fun _ hj'=>by rw [hj] at hj';cases hj'
   ·rw [if_neg hj] at hp
    change zn (yy f [] us) _=some res at hp
    obtain ⟨r1,h1⟩:=Yw hp
    have hr:Yc t us r1=res:=by
     unfold Yc
     rw [if_pos hi,if_neg hj];rw [h1] at hp;rcases r1 with a | ⟨l,vs⟩
     ·simpa [zn] using hp
     ·simp only [zn] at hp
      by_cases hk:zo (zz vs) [41]=true
      ·simpa [hk] using hp
      ·simpa [hk] using hp
    rw [←hr];exact vx r g o cap _ t us w r1 h hE (fun l vs he=>by subst he;exact (Zk f).2.2.2.2.2.1 _ _ _ _ h1 hE1) fun _ _ w1 o1 cap1 hR hK=>C.row w1 o1 cap1 us r1 h1 hE1 hR (hl.kept hK hrl)
  ·rw [if_neg hi] at hp
   have hr:Yc t us (.error 0)=res:=by unfold Yc;rw [if_neg hi];exact Option.some.inj hp
   rw [←hr];exact vx r g o cap _ t us w (.error 0) h hE (fun _ _ h=>by cases h) fun hi'=>absurd hi' hi
 single:=fun w o cap ts res hp hE h hl=>by
  obtain ⟨t,us,rfl⟩:=hE.cons;rw [zP] at hp;simp only [zC,List.tail_cons] at hp
  by_cases h2:t.k=2
  ·rw [if_pos h2] at hp
   simp only [Option.some.injEq] at hp;subst hp;exact Qk r g o cap t us w h h2 (hE.tail (by omega)).ne
  ·rw [if_neg h2] at hp
   by_cases h3:t.k=3
   ·rw [if_pos h3] at hp
    simp only [Option.some.injEq] at hp;subst hp;exact Ql r g o cap t us w h h3 (hE.tail (by omega)).ne
   ·rw [if_neg h3] at hp
    by_cases h1:t.k=1
    ·rw [if_pos h1] at hp
     have hE1:=hE.tail (by omega:t.k≠0)
     obtain ⟨u,vs,rfl⟩:=hE1.cons;refine qh r g o cap t (u::vs) w res h h1 fun w1 hR hK=>?_
     simp only [zC] at hp
     by_cases hi:zo u [40]=true
     ·rw [if_pos hi] at hp
      obtain ⟨r1,hb⟩:=Yw hp
      have hr:zbg t r1=res:=by
       rw [hb] at hp;rcases r1 with a | ⟨l,xs⟩ <;> simpa [zn,zbg] using hp
      rw [←hr];exact zav r g o cap t u vs w1 r1 hR h1 hi fun w2 o2 cap2 hR2 hK2=>C.brackets w2 o2 cap2 _ r1 hb hE1 hR2 ((hl.kept hK hrl).kept hK2 hrl)
     ·rw [if_neg hi] at hp
      simp only [Option.some.injEq] at hp;subst hp;exact Qi r g o cap t u vs w1 hR h1 (by simpa using hi)
    ·rw [if_neg h1] at hp
     by_cases hT:zo t [116,114,117,101]=true
     ·rw [if_pos hT] at hp
      simp only [Option.some.injEq] at hp;subst hp;exact qi r g o cap t us w hT h hE h1 h2 h3
     ·rw [if_neg hT] at hp
      have hT':zo t [116,114,117,101]=false:=by simpa using hT
      by_cases hF:zo t [102,97,108,115,101]=true
      ·rw [if_pos hF] at hp
       simp only [Option.some.injEq] at hp;subst hp;exact Ud r g o cap t us w hF h hE h1 h2 h3 hT'
      ·rw [if_neg hF] at hp
       have hF':zo t [102,97,108,115,101]=false:=by simpa using hF
       by_cases hN:zo t [110,101,119]=true
       ·rw [if_pos hN] at hp
        have hE1:=hE.tail (zi hN);obtain ⟨u,vs,rfl⟩:=hE1.cons;simp only [yB,zC,List.tail_cons] at hp
        by_cases hk:u.k=1
        ·rw [if_pos hk] at hp
         change zn (zK f vs) _=some res at hp
         obtain ⟨r1,hb⟩:=Yw hp
         have hr:qj t u r1=res:=by
          unfold qj
          rw [if_pos hk];rw [hb] at hp;rcases r1 with a | ⟨l,xs⟩ <;> simpa [zn] using hp
         rw [←hr];exact VH r g o cap t u vs w r1 hN (fun _ w2 o2 cap2 hR2 hK2=>C.brackets w2 o2 cap2 _ r1 hb (hE1.tail (by omega)) hR2 (hl.kept hK2 hrl)) h hE h1 h2 h3 hT' hF'
        ·rw [if_neg hk] at hp
         have hr:qj t u (.error 0)=res:=by unfold qj;rw [if_neg hk];simpa [zn] using hp
         rw [←hr];exact VH r g o cap t u vs w (.error 0) hN (fun hk'=>absurd hk' hk) h hE h1 h2 h3 hT' hF'
       ·rw [if_neg hN] at hp
        have hN':zo t [110,101,119]=false:=by simpa using hN
        by_cases hA:zo t [91]=true
        ·rw [if_pos hA] at hp
         have hE1:=hE.tail (zi hA);obtain ⟨r1,hb⟩:=Yw hp
         have hr:vy t r1=res:=by
          unfold vy
          rw [hb] at hp;rcases r1 with a | ⟨l,xs⟩
          ·simpa [zn] using hp
          ·simp only [zn,zV] at hp
           by_cases hk:zo (zz xs) [93]=true
           ·simpa [hk] using hp
           ·simpa [hk] using hp
         rw [←hr];exact Ue r g o cap t us w r1 hA (fun l xs he=>by subst he;exact (Zk f).2.2.2.2.2.1 _ _ _ _ hb hE1) (fun w2 o2 cap2 hR2 hK2=>C.row w2 o2 cap2 _ r1 hb hE1 hR2 (hl.kept hK2 hrl)) h hE h1 h2 h3 hT' hF' hN'
        ·rw [if_neg hA] at hp
         have hA':zo t [91]=false:=by simpa using hA
         simp only [zV,zC,List.tail_cons] at hp
         by_cases hP:zo t [40]=true
         ·rw [if_pos hP] at hp
          change zn (zh f 1 us) _=some res at hp
          have hE1:=hE.tail (zi hP);obtain ⟨r1,hb⟩:=Yw hp
          have hr:xJ t r1=res:=by
           unfold xJ
           rw [if_pos hP];rw [hb] at hp;rcases r1 with a | ⟨l,xs⟩
           ·simpa [zn] using hp
           ·simp only [zn] at hp
            by_cases hk:zo (zz xs) [41]=true
            ·simpa [hk] using hp
            ·simpa [hk] using hp
          rw [←hr];exact X4 r g o cap t us w r1 (fun l xs he=>by subst he;exact (Zk f).1 _ _ _ _ hb hE1) (fun _ w2 o2 cap2 hR2 hK2=>C.expr hrl w2 o2 cap2 _ r1 hb hE1 hR2 (hl.kept hK2 hrl)) h hE h1 h2 h3 hT' hF' hN' hA'
         ·rw [if_neg hP] at hp
          have hr:xJ t (.error 0)=res:=by unfold xJ;rw [if_neg hP];simpa [zn] using hp
          rw [←hr];exact X4 r g o cap t us w (.error 0) (fun _ _ h=>by cases h) (fun hP'=>absurd hP' hP) h hE h1 h2 h3 hT' hF' hN' hA'
def uA (f:Nat) (e:Ex) (ts:List Tk):Option (PR Ex):=zn (zV [93] ts) fun _ ts=>zH f e ts
theorem zd9 (r g o cap F:Nat) (ts:List Tk) (w:World) (res:PR Ex) (h:zg r g o cap ts w) (hE:zk ts) (hp:zn (zP F ts) (fun e ts=>zH F e ts)=some res)
  (hsg:∀w1 o1 cap1 ts1 r1,zP F ts1=some r1→zk ts1→zg r g o1 cap1 ts1 w1→zb r w w1→Calls Tryz.prog 176 #[.pointer (some ⟨r,0,none⟩)] w1 (zI r g w1 r1))
  (hex:∀w1 o1 cap1 ts1 r1,zh F 1 ts1=some r1→zk ts1→zg r g o1 cap1 ts1 w1→zb r w w1→Calls Tryz.prog 36 #[.pointer (some ⟨r,0,none⟩)] w1 (zI r g w1 r1)) :
  Calls Tryz.prog 145 #[.pointer (some ⟨r,0,none⟩)] w (zI r g w res):=by
 obtain ⟨t0,ts0,rfl⟩:=hE.cons;have hr:=h.lt.1;have hgw:=h.lt.2;cases hb:zP F (t0::ts0) with
 | none=>rw [hb] at hp;cases hp
 | some r1 =>
  obtain ⟨w0,hw0⟩:∃w0,w0=w.alloc Ze:=⟨_,rfl⟩;have c1:=hsg w0 o cap (t0::ts0) r1 hb hE (by rw [hw0];exact h.alloc _) (by rw [hw0];exact (zb.refl r w).alloc _)
  rw [hb] at hp;simp only [zn] at hp;have HW0:Hid (w0=w.alloc Ze):=hw0;have HEX1:Hid (∀w1 o1 cap1 ts1 r1,zh F 1 ts1=some r1→zk ts1→zg r g o1 cap1 ts1 w1→zb r w w1→Calls Tryz.prog 36 #[.pointer (some ⟨r,0,none⟩)] w1 (zI r g w1 r1)):=hex;clear hw0 hex hsg
  go_enter Tryz.func145,Tryz.ntmps145
  go_wp2_with fail
  rw [←HW0.out];refine c1.mono ?_;clear c1;rintro e w1 ⟨hk1,hpost⟩;have hkk:zb r w w1:=by have:=HW0.out;subst this;exact ((zb.refl r w).alloc _).trans hk1
  rcases r1 with a | ⟨x,us⟩
  ·obtain rfl:=hpost
   simp only [Option.some.injEq] at hp;subst hp;exact ⟨rfl,hkk,rfl⟩
  ·obtain ⟨v,o1,cap1,rfl,hx,hrd⟩:=hpost
   obtain ⟨a,b,c,d0,d1,d2,l,rfl⟩:=hx.agg;have hE1:=(Zk F).2.2.2.2.1 _ _ _ hb hE;have hJ:=Z0.start (p:=fun f e ts=>zH f e ts) (res:=res) HW0.out hr hk1 hx hrd hp hE1 hrd.few
   have HJ:Hid (Z0 r g w1.heap.size F w res (fun f e ts=>zH f e ts) (w1.alloc (.cells #[.int .i64 a,.string b,.int .i64 c,.slice d0 d1 d2,.int .i64 l] 40))):=hJ
   have hNw:w.heap.size<w1.heap.size:=by have:=hk1.size;have h2:=HW0.out;subst h2;simp at this;omega
   obtain ⟨N,hNe⟩:∃N,N=w1.heap.size:=⟨_,rfl⟩;rw [←hNe] at HJ hNw;clear hJ hx hrd hk1 hE1 hp hb hE h hkk HW0;go_wp2_with fail
   rw [←hNe];generalize hW0:w1.alloc (.cells #[.int .i64 a,.string b,.int .i64 c,.slice d0 d1 d2,.int .i64 l] 40)=W0 at *;clear hW0 hNe
   go_loopw [7] (fun _ wr=>Z0 r g N F w res (fun f e ts=>zH f e ts) wr) (fun _ wr=>ZQ r wr)
   case atStart=>exact HJ.out
   case round =>
    obtain ⟨e,ts2,o2,cap2,f2,a2,b2,c2,p2,q2,s2,l2,hf2,hT,hE2,hN2,hblk,hx2,hrd2,hk2,hz2⟩:=hrel;obtain ⟨t2,ts3,rfl⟩:=hE2.cons;obtain rfl:l2=(e.line:Int):=hx2.line_eq;clear HJ;have cs:=Zu r g o2 cap2 t2 ts3 [91] wr hrd2 (fun hi=>(hE2.tail (zi hi)).ne)
    have hleft:=hrd2.left
    have HEX:Hid (∀W,zb r wr W→zg r g o2 cap2 (t2::ts3) W→W.heap[N]?=some (.cells #[.int .i64 a2,.string b2,.int .i64 c2,.slice p2 q2 s2,.int .i64 (e.line:Int)] 40 (0,0))∧W.heap[w.heap.size]?=some Ze ∧
     zI r g w (.ok (e,t2::ts3)) (.returned (.agg #[.int .i64 a2,.string b2,.int .i64 c2,.slice p2 q2 s2,.int .i64 (e.line:Int)])) (set5 W w.heap.size (.int .i64 a2) (.string b2) (.int .i64 c2) (.slice p2 q2 s2) (.int .i64 (e.line:Int)))) :=
     fun W hK hrd=>Z0.leave hr hgw hNw hk2 hblk hz2 hx2 hK hrd
    have HBLK:Hid (∀W,zb r wr W→W.heap[N]?=some (.cells #[.int .i64 a2,.string b2,.int .i64 c2,.slice p2 q2 s2,.int .i64 (e.line:Int)] 40 (0,0))∧W.heap[w.heap.size]?=some Ze) :=
     fun W hK=>⟨(hK.block _ (Array.getElem?_eq_some_iff.1 hblk).1 (by omega)).trans hblk,(hK.block _ (Array.getElem?_eq_some_iff.1 hz2).1 (by omega)).trans hz2⟩
    have HX2:Hid (zQ (fun k=>w.heap.size<k∧k≠N) wr e (.agg #[.int .i64 a2,.string b2,.int .i64 c2,.slice p2 q2 s2,.int .i64 (e.line:Int)])):=hx2
    have HK2:Hid (zb r w wr):=hk2;have HE2:Hid (zk (t2::ts3)):=hE2;cases f2 with
    | zero=>simp [zH] at hT
    | succ f3 =>
     have hf3:f3≤F:=by omega
     simp only [zH,zC,List.tail_cons] at hT;clear hx2 hk2 hrd2 hE2 hblk hz2
     by_cases hi:zo t2 [91]=true
     ·rw [hi] at cs
      rw [if_pos hi] at hT;have hE3:=HE2.out.tail (zi hi);go_wp2_with fail
      refine cs.mono ?_;clear cs;rintro e' wE ⟨rfl,hkE,hrE⟩;simp only [if_true] at hrE;obtain ⟨pN,pz⟩:=HBLK.out wE hkE;have HKE:Hid (zb r wr wE):=hkE;have HKW:Hid (zb r w wE):=HK2.out.trans hkE;have hNlt:N<wE.heap.size:=(Array.getElem?_eq_some_iff.1 pN).1;cases hb3:zh f3 1 ts3 with
      | none=>rw [hb3] at hT;cases hT
      | some r3 =>
       rw [hb3] at hT;simp only [zn] at hT
       have hb4:zh F 1 ts3=some r3:=by
        have:=YH (k:=F-f3) hb3
        rwa [show f3+(F-f3)=F by omega] at this
       have cb:∀W:World,W.heap=wE.heap→W.os=wE.os→W.tape=wE.tape→W.output=wE.output→Calls Tryz.prog 36 #[.pointer (some ⟨r,0,none⟩)] W fun e w'=>zb r wE w'∧zI r g W r3 e w':=fun W e1 e2 e3 e4 =>
        (HEX1.out W _ _ ts3 r3 hb4 hE3 (hrE.keep (by rw [e1]) (by rw [e1])) ⟨e2.trans HKW.out.os,e3.trans HKW.out.tape,e4.trans HKW.out.output,by rw [e1];exact HKW.out.size,fun k hk hr=>by rw [e1];exact HKW.out.block k hk hr⟩).mono fun e w' h =>
         ⟨⟨h.1.os.trans e2,h.1.tape.trans e3,h.1.output.trans e4,by rw [←e1];exact h.1.size,fun k hk hr=>by rw [←e1];exact h.1.block k (by rw [e1];exact hk) hr⟩,h⟩
       obtain ⟨n0,n1,n2,n3,n4,nf⟩:=zl pN;have HPN:Hid (wE.heap[N]?=some (.cells #[.int .i64 a2,.string b2,.int .i64 c2,.slice p2 q2 s2,.int .i64 (e.line:Int)] 40 (0,0))):=pN;have HPZ:Hid (wE.heap[w.heap.size]?=some Ze):=pz;clear pN pz hrE hkE HEX1 HBLK HEX;rcases r3 with a3 | ⟨x3,us3⟩
       ·simp only [Option.some.injEq] at hT
        subst hT;have cu':∀W:World,W.heap=wE.heap→W.os=wE.os→W.tape=wE.tape→W.output=wE.output→Calls Tryz.prog 36 #[.pointer (some ⟨r,0,none⟩)] W fun e w'=>e=ZF a3∧zb r w w':=fun W e1 e2 e3 e4=>(cb W e1 e2 e3 e4).mono fun e w' h=>⟨h.2.2,HKW.out.trans h.1⟩
        clear cb;go_wp2_with fail
        go_region_dies
        all_goals (go_wp2_with fail;refine (cu' _ (by rfl) (by rfl) (by rfl) (by rfl)).mono ?_;rintro e w4 ⟨rfl,hk4⟩;exact ⟨rfl,hk4,rfl⟩)
       ·have hE5:=(Zk F).1 _ _ _ _ hb4 hE3
        have hl5:=Yi hb4;have hl7:us3.length<ZQ r wr:=by rw [hleft];simp only [List.length_cons];omega
        have HT:Hid (uA f3 (.mk 8 [] 0 [e,x3] e.line) us3=some res):=hT
        have cu':∀W:World,W.heap=wE.heap→W.os=wE.os→W.tape=wE.tape→W.output=wE.output→Calls Tryz.prog 36 #[.pointer (some ⟨r,0,none⟩)] W fun e' w'=>∃(a3:Int) (b3:ByteArray) (c3:Int) (u0:Option Addr) (u1 u2:Nat) (l3:Int),e'=.returned (.agg #[.int .i64 a3,.string b3,.int .i64 c3,.slice u0 u1 u2,.int .i64 l3]) ∧
          w'.heap[N]?=some (.cells #[.int .i64 a2,.string b2,.int .i64 c2,.slice p2 q2 s2,.int .i64 (e.line:Int)] 40 (0,0))∧Hid (zb r wE w'∧Zc wE.heap.size w' x3 (.agg #[.int .i64 a3,.string b3,.int .i64 c3,.slice u0 u1 u2,.int .i64 l3])∧∃o cap,zg r g o cap us3 w'):=fun W e1 e2 e3 e4=>(cb W e1 e2 e3 e4).mono fun e' w' h=>by
         obtain ⟨hk4,-,v,o4,cap4,rfl,hx,hrd⟩:=h;obtain ⟨a3,b3,c3,u0,u1,u2,l3,rfl⟩:=hx.agg;exact ⟨a3,b3,c3,u0,u1,u2,l3,rfl,(hk4.block N hNlt (by omega)).trans HPN.out,hk4,(by rw [←e1];exact hx:Zc wE.heap.size w' x3 _),o4,cap4,hrd⟩
        clear cb hT;go_wp2_with fail
        go_cut [] from 6 to 28 (fun wx=>Z0 r g N F w res uA wx∧ZQ r wx<ZQ r wr)
        case first =>
         go_region_with (go_at_call 36;refine (cu' _ (by rfl) (by rfl) (by rfl) (by rfl)).mono ?_;rintro e' w7 ⟨a3,b3,c3,u0,u1,u2,l3,rfl,p7,H7⟩;have hN7:N<w7.heap.size:=(Array.getElem?_eq_some_iff.1 p7).1;have p7':=(fun ob=>(Below.heap_alloc w7 ob N hN7).trans p7);obtain ⟨m0,m1,m2,m3,m4,mf⟩:=zl p7;have m0':=zj m0;have m1':=zj m1;have m2':=zj m2;have m3':=zj m3;have m4':=zj m4;have mf':=(fun ob j=>(zl (p7' ob)).2.2.2.2.2 j))
         all_goals
          obtain ⟨hk7,hx7,o7,cap7,hrd7⟩:=H7.out;obtain ⟨W,hW⟩:∃W,W=(set5 w7 N (.int .i64 8) (.string ⟨#[]⟩) (.int .i64 0) (.slice (some ⟨w7.heap.size,0,none⟩) 2 2) (.int .i64 (e.line:Int))).alloc (.cells #[.int .i64 a2,.string b2,.int .i64 c2,.slice p2 q2 s2,.int .i64 (e.line:Int),.int .i64 a3,.string b3,.int .i64 c3,.slice u0 u1 u2,.int .i64 l3] 40):=⟨_,rfl⟩;obtain ⟨hJ,hlt7⟩:=Z0.two (p:=uA) 8 [] hr hgw hNw hNlt HX2.out HK2.out HKE.out hk7 p7 HPZ.out hx7 hrd7 hf3 HT.out hE5 hrd7.few (.int .i64 8) rfl W hW;have HJW:Hid (Z0 r g N F w res uA W∧ZQ r W<ZQ r wr):=show _∧_<_ from ⟨hJ,by rw [hlt7];exact hl7⟩
          change Exit.then _ _ _ _ ((set5 w7 N (.int .i64 8) (.string ⟨#[]⟩) (.int .i64 0) (.slice (some ⟨w7.heap.size,0,none⟩) 2 2) (.int .i64 (e.line:Int))).alloc (.cells #[.int .i64 a2,.string b2,.int .i64 c2,.slice p2 q2 s2,.int .i64 (e.line:Int),.int .i64 a3,.string b3,.int .i64 c3,.slice u0 u1 u2,.int .i64 l3] 40))
          rw [←hW];clear hW hJ hlt7 hrd7 hx7 hk7 p7 p7' m0 m1 m2 m3 m4 mf m0' m1' m2' m3' m4' mf' n0 n1 n2 n3 n4 nf cu' H7 HPN HPZ HT HKE HKW HX2 HK2 HE2 hl5 hl7 hE5 hE3;go_wp2_with fail
          go_meet
          exact HJW.out
        case rest =>
         obtain ⟨⟨e5,ts5,o5,cap5,f5,a5,b5,c5,p5,q5,s5,l5,hf5,hT5,hE6,hN5,hblk5,hx5,hrd5,hk5,hz5⟩,hlt⟩:=hcut;obtain ⟨t5,ts6,rfl⟩:=hE6.cons;have cn:=yF r g o5 cap5 t5 ts6 [93] wc hrd5 (fun hi=>(hE6.tail (zi hi)).ne)
         have hleft5:=hrd5.left
         unfold uA zV at hT5
         simp only [zC,List.tail_cons] at hT5
         by_cases hm:zo t5 [93]=true
         ·simp only [if_pos hm] at cn
          rw [if_pos hm] at hT5
          have HMV:Hid (∀W,zb r wc W→zg r g (o5+5) (cap5-1) ts6 W→Z0 r g N F w res (fun f e ts=>zH f e ts) W∧ZQ r W<ZQ r wr):=fun W hK hR =>
           ⟨Z0.moved (p:=fun f e ts=>zH f e ts) hr hNw hblk5 hx5 hk5 hz5 hK hR hf5 hT5 (hE6.tail (zi hm)),by rw [hR.left];simp only [List.length_cons] at hleft5;omega⟩
          clear hT5 hblk5 hx5 hrd5 hk5 hz5 cu' HT HX2 HK2 HE2 HKE HKW HPN HPZ n0 n1 n2 n3 n4 nf;go_wp2_with fail
          refine cn.mono ?_;clear cn;rintro e9 w9 ⟨hk9,rfl,hr9⟩;have HM9:Hid (Z0 r g N F w res (fun f e ts=>zH f e ts) w9∧ZQ r w9<ZQ r wr):=HMV.out w9 hk9 hr9
          clear HMV hk9 hr9;go_wp2
          exact HM9.out
         ·simp only [if_neg hm] at cn
          rw [if_neg hm] at hT5;simp only [zn,Option.some.injEq] at hT5;subst hT5;have HK5:Hid (zb r w wc):=hk5;clear hblk5 hx5 hrd5 hk5 hz5 cu' HT HX2 HK2 HE2 HKE HKW HPN HPZ n0 n1 n2 n3 n4 nf;go_wp2_with fail
          refine cn.mono ?_;clear cn;rintro e9 w9 ⟨hk9,rfl⟩;exact ⟨rfl,HK5.out.trans hk9,rfl⟩
     ·have hi':zo t2 [91]=false:=by simpa using hi
      rw [hi'] at cs;rw [if_neg hi] at hT;go_wp2_with fail
      refine cs.mono ?_;clear cs;rintro e' wB ⟨rfl,hkB,hrB⟩;have hrB':zg r g o2 cap2 (t2::ts3) wB:=by simpa using hrB
      have cd:=Zu r g o2 cap2 t2 ts3 [46] wB hrB' (fun hi=>(HE2.out.tail (zi hi)).ne)
      have HKB:Hid (zb r wr wB):=hkB;clear hkB hrB hrB'
      by_cases hd:zo t2 [46]=true
      ·rw [hd] at cd
       rw [if_pos hd] at hT;have hE3:=HE2.out.tail (zi hd);obtain ⟨t3,ts4,rfl⟩:=hE3.cons;go_wp2_with fail
       refine cd.mono ?_;clear cd;rintro e' wE ⟨rfl,hkE,hrE⟩;have hkE':zb r wr wE:=HKB.out.trans hkE;have hrE':zg r g (o2+5) (cap2-1) (t3::ts4) wE:=by simpa using hrE
       obtain ⟨pN,pz⟩:=HBLK.out wE hkE';have HKE:Hid (zb r wr wE):=hkE';have HKW:Hid (zb r w wE):=HK2.out.trans hkE';have hNlt:N<wE.heap.size:=(Array.getElem?_eq_some_iff.1 pN).1;have HRE:Hid (zg r g (o2+5) (cap2-1) (t3::ts4) wE):=hrE';obtain ⟨n0,n1,n2,n3,n4,nf⟩:=zl pN;have n0':=zj n0;have n1':=zj n1;have n2':=zj n2;have n3':=zj n3;have n4':=zj n4;have HPN:Hid (wE.heap[N]?=some (.cells #[.int .i64 a2,.string b2,.int .i64 c2,.slice p2 q2 s2,.int .i64 (e.line:Int)] 40 (0,0))):=pN;have HPZ:Hid (wE.heap[w.heap.size]?=some Ze):=pz
       have cb:∀W:World,zb r wE W→zg r g (o2+5) (cap2-1) (t3::ts4) W→Calls Tryz.prog 101 #[.pointer (some ⟨r,0,none⟩)] W fun e w'=>zb r W w'∧if t3.k=1 then e=.returned (.string (za t3.s))∧zg r g (o2+5+5) (cap2-1-1) ts4 w' else e=ZF t3.at0:=fun W hK hR =>
        xe r g _ _ t3 ts4 W hR (fun hk=>(hE3.tail (by omega)).ne)
       simp only [yB,zC,List.tail_cons] at hT;clear pN pz hrE hrE' hkE hkE' HKB HBLK HEX HEX1
       by_cases h3:t3.k=1
       ·rw [if_pos h3] at hT
        have hE4:=hE3.tail (by omega:t3.k≠0)
        have hl7:ts4.length<ZQ r wr:=by rw [hleft];simp only [List.length_cons];omega
        have HT:Hid (zH f3 (.mk 9 t3.s 0 [e] e.line) ts4=some res):=hT
        have cu':∀W:World,zb r wE W→zg r g (o2+5) (cap2-1) (t3::ts4) W→Calls Tryz.prog 101 #[.pointer (some ⟨r,0,none⟩)] W fun e' w'=>e'=.returned (.string (za t3.s))∧w'.heap[N]?=some (.cells #[.int .i64 a2,.string b2,.int .i64 c2,.slice p2 q2 s2,.int .i64 (e.line:Int)] 40 (0,0))∧W.heap.size≤w'.heap.size∧Hid (zb r W w'∧zg r g (o2+5+5) (cap2-1-1) ts4 w'):=fun W hK hR=>(cb W hK hR).mono fun e' w' h=>by
         obtain ⟨hk4,hpost⟩:=h;rw [if_pos h3] at hpost;obtain ⟨rfl,hrd⟩:=hpost;exact ⟨rfl,(hk4.block N (Nat.lt_of_lt_of_le hNlt hK.size) (by omega)).trans ((hK.block N hNlt (by omega)).trans HPN.out),hk4.size,hk4,hrd⟩
        clear cb hT;go_wp2_with fail
        go_region_with (go_at_call 101;refine (cu' _ (by first | exact zb.drew r wE | exact ((zb.refl r wE).alloc _).trans (zb.drew _ _)) (by first | exact HRE.out.keep rfl rfl | exact (HRE.out.alloc _).keep rfl rfl)).mono ?_;rintro e' w7 ⟨rfl,p7,hs7,H7⟩;have hN7:N<w7.heap.size:=(Array.getElem?_eq_some_iff.1 p7).1;have p7':=(fun ob=>(Below.heap_alloc w7 ob N hN7).trans p7);obtain ⟨m0,m1,m2,m3,m4,mf⟩:=zl p7;have m0':=zj m0;have m1':=zj m1;have m2':=zj m2;have m3':=zj m3;have m4':=zj m4;have mf':=(fun ob j=>(zl (p7' ob)).2.2.2.2.2 j))
        all_goals (obtain ⟨hk7d,hrd7⟩:=H7.out)
        all_goals first
         | (have hk7:zb r wE w7:=(zb.drew r wE).trans hk7d
            obtain ⟨W,hW⟩:∃W,W=(set5 w7 N (.int .i64 9) (.string (za t3.s)) (.int .i64 0) (.slice (some ⟨w7.heap.size,0,none⟩) 1 1) (.int .i64 (e.line:Int))).alloc (.cells #[.int .i64 a2,.string b2,.int .i64 c2,.slice p2 q2 s2,.int .i64 (e.line:Int)] 40):=⟨_,rfl⟩;obtain ⟨hJ,hlt7⟩:=Z0.one (p:=fun f e ts=>zH f e ts) 9 t3.s hr hgw hNw hNlt HX2.out HK2.out HKE.out hk7 p7 HPZ.out hrd7 hf3 HT.out hE4 hrd7.few (.int .i64 9) rfl W hW
            have HJW:Hid (Z0 r g N F w res (fun f e ts=>zH f e ts) W∧ZQ r W<ZQ r wr):=show _∧_<_ from ⟨hJ,by rw [hlt7];exact hl7⟩
            change Exit.inBlock _ _ _ _ ((set5 w7 N (.int .i64 9) (.string (za t3.s)) (.int .i64 0) (.slice (some ⟨w7.heap.size,0,none⟩) 1 1) (.int .i64 (e.line:Int))).alloc (.cells #[.int .i64 a2,.string b2,.int .i64 c2,.slice p2 q2 s2,.int .i64 (e.line:Int)] 40))
            rw [←hW];clear hW hJ hlt7 hrd7 hk7 hk7d p7 p7' m0 m1 m2 m3 m4 mf m0' m1' m2' m3' m4' mf' n0 n1 n2 n3 n4 nf n0' n1' n2' n3' n4' cu' H7 HPN HPZ HT HKE HKW HX2 HK2 HE2 hl7 hE4 hE3 HRE;go_wp2
            exact HJW.out)
         | (have hk7:zb r (wE.alloc (.cells #[.int .i64 a2,.string b2,.int .i64 c2,.slice p2 q2 s2,.int .i64 (e.line:Int)] 40)) w7:=(zb.drew r (wE.alloc (.cells #[.int .i64 a2,.string b2,.int .i64 c2,.slice p2 q2 s2,.int .i64 (e.line:Int)] 40))).trans hk7d
            obtain ⟨W,hW⟩:∃W,W=set5 w7 N (.int .i64 9) (.string (za t3.s)) (.int .i64 0) (.slice (some ⟨wE.heap.size,0,none⟩) 1 1) (.int .i64 (e.line:Int)):=⟨_,rfl⟩;obtain ⟨hJ,hlt7⟩:=Z0.one' (p:=fun f e ts=>zH f e ts) 9 t3.s hr hgw hNw hNlt HX2.out HK2.out HKE.out hk7 p7 HPZ.out hrd7 hf3 HT.out hE4 (.int .i64 9) rfl W hW
            have HJW:Hid (Z0 r g N F w res (fun f e ts=>zH f e ts) W∧ZQ r W<ZQ r wr):=show _∧_<_ from ⟨hJ,by rw [hlt7];exact hl7⟩
            change Exit.inBlock _ _ _ _ (set5 w7 N (.int .i64 9) (.string (za t3.s)) (.int .i64 0) (.slice (some ⟨wE.heap.size,0,none⟩) 1 1) (.int .i64 (e.line:Int)))
            rw [←hW];clear hW hJ hlt7 hrd7 hk7 hk7d p7 p7' m0 m1 m2 m3 m4 mf m0' m1' m2' m3' m4' mf' n0 n1 n2 n3 n4 nf n0' n1' n2' n3' n4' cu' H7 HPN HPZ HT HKE HKW HX2 HK2 HE2 hl7 hE4 hE3 HRE;go_wp2
            exact HJW.out)
       ·rw [if_neg h3] at hT
        simp only [zn,Option.some.injEq] at hT;subst hT
        have cu':∀W:World,zb r wE W→zg r g (o2+5) (cap2-1) (t3::ts4) W→Calls Tryz.prog 101 #[.pointer (some ⟨r,0,none⟩)] W fun e w'=>e=ZF t3.at0∧zb r w w':=fun W hK hR=>(cb W hK hR).mono fun e w' h=>by
         obtain ⟨hk4,hpost⟩:=h;rw [if_neg h3] at hpost;exact ⟨hpost,HKW.out.trans (hK.trans hk4)⟩
        clear cb;go_wp2_with fail
        go_region_dies
        all_goals
         go_wp2_with fail
         refine (cu' _ ?_ ?_).mono ?_
         ·first | exact zb.drew r wE | exact ((zb.refl r wE).alloc _).trans (zb.drew _ _)
         ·first | exact HRE.out.keep rfl rfl | exact (HRE.out.alloc _).keep rfl rfl
         ·rintro e w4 ⟨rfl,hk4⟩;exact ⟨rfl,hk4,rfl⟩
      ·have hd':zo t2 [46]=false:=by simpa using hd
       rw [hd'] at cd;rw [if_neg hd] at hT;simp only [Option.some.injEq] at hT;subst hT;go_wp2_with fail
       refine cd.mono ?_;clear cd;rintro e' wC ⟨rfl,hkC,hrC⟩;obtain ⟨pN,pz,hpo⟩:=HEX.out wC (HKB.out.trans hkC) (by simpa using hrC)
       obtain ⟨n0,n1,n2,n3,n4,nf⟩:=zl pN;obtain ⟨q0,q1,q2',q3,q4,qf⟩:=zl pz;obtain ⟨z0,z1,z2,z3,z4⟩:=zt pz (.int .i64 a2) (.string b2) (.int .i64 c2) (.slice p2 q2 s2) (.int .i64 (e.line:Int));have HPO:Hid (zI r g w (.ok (e,t2::ts3)) (.returned (.agg #[.int .i64 a2,.string b2,.int .i64 c2,.slice p2 q2 s2,.int .i64 (e.line:Int)])) (set5 wC w.heap.size (.int .i64 a2) (.string b2) (.int .i64 c2) (.slice p2 q2 s2) (.int .i64 (e.line:Int)))):=hpo;clear HEX HEX1 HX2 HK2 HE2 hpo pN pz hkC hrC HKB HBLK;go_wp2
       exact bodyPost_ret (v:=.agg #[.int .i64 a2,.string b2,.int .i64 c2,.slice p2 q2 s2,.int .i64 (e.line:Int)]) (by simp [results,Tryz.results145,go_sem,z0,z1,z2,z3,z4]) rfl HPO.out
theorem zc6 (r g:Nat) (hrl:r≠1):∀f,Vx r g f:=by
 intro f
 induction f with
 | zero=>exact ⟨fun _ _ _ _ _ _ h=>by simp [zh] at h,fun _ _ _ _ _ h=>by simp [Zw] at h,fun _ _ _ _ _ h=>by simp [zP] at h,fun _ _ _ _ _ h=>by simp [yy] at h,fun _ _ _ _ _ h=>by simp [zK] at h⟩
 | succ f C =>
  refine C.next hrl (fun o cap least ts w res h hE hl h6 hp=>?_) (fun o cap ts w res h hE hl hp=>?_)
  ·refine zbV r g o cap f least ts w res h hE h.few hl hrl h6 hp fun w1 o1 cap1 ts1 r1 hb hE1 _ hR hK=>?_
   have:=C.between (least+1) w1 o1 cap1 ts1 r1 hb hE1 hR (hl.kept hK hrl)
   simpa using this
  ·exact zd9 r g o cap f ts w res h hE hp (fun w1 o1 cap1 ts1 r1 hb hE1 hR hK=>C.single w1 o1 cap1 ts1 r1 hb hE1 hR (hl.kept hK hrl)) fun w1 o1 cap1 ts1 r1 hb hE1 hR hK=>C.expr hrl w1 o1 cap1 ts1 r1 hb hE1 hR (hl.kept hK hrl)
structure zeU (r g f:Nat):Prop where
 stmt:∀w o cap ts res,yd f ts=some res→zk ts→zg r g o cap ts w→Zy w→Calls Tryz.prog 142 #[.pointer (some ⟨r,0,none⟩)] w (ZE r g w res)
 block:∀w o cap ts res,Zb f ts=some res→zk ts→zg r g o cap ts w→Zy w→Calls Tryz.prog 107 #[.pointer (some ⟨r,0,none⟩)] w (XD r g w res)
theorem zeV (r g:Nat) (hrl:r≠1):∀f,zeU r g f:=by
 intro f
 induction f with
 | zero=>exact ⟨fun _ _ _ _ _ h=>by simp [yd] at h,fun _ _ _ _ _ h=>by simp [Zb] at h⟩
 | succ f C =>
  refine ⟨fun w o cap ts res hp hE h hl=>?_,fun w o cap ts res hp hE h hl=>?_⟩
  ·exact QE r g o cap f ts w res h hE hp (fun w1 o1 cap1 ts1 r1 hb hE1 hR hK=>(zc6 r g hrl f).expr hrl w1 o1 cap1 ts1 r1 hb hE1 hR (hl.kept hK hrl)) (fun w1 o1 cap1 ts1 r1 hb hE1 hR hK=>C.block w1 o1 cap1 ts1 r1 hb hE1 hR (hl.kept hK hrl))
  ·exact zdW r g o cap f ts w res h hE hp (fun w1 o1 cap1 ts1 r1 hb hE1 hR hK=>C.stmt w1 o1 cap1 ts1 r1 hb hE1 hR (hl.kept hK hrl))
end Go.Proofs.YtdgpapchkpnijaaGreatDoor
