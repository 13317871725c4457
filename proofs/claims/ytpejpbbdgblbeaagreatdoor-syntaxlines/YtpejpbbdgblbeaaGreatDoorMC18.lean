import Derived.Test.YtpejpbbdgblbeaaGreatDoorMC16
import Derived.Test.YtpejpbbdgblbeaaGreatDoorMC17
import Derived.Test.YtpejpbbdgblbeaaGreatDoorMC19
import Derived.Deep.RegionWith
import Derived.Deep.DeepCutAuto
import Derived.Deep.CutRange
import Derived.Test.YtpejpbbdgblbeaaGreatDoorSStatement
namespace Go.Proofs.YtpejpbbdgblbeaaGreatDoor
open Go.RowKit Go.Shelf
set_option maxHeartbeats 16000000
set_option maxRecDepth 100000
structure VB (r g f:Nat):Prop where
 between:∀least w o cap ts res,zh f least ts=some res→zg ts→zf r g o cap ts w→Zz w→Calls Tryz.prog 86 #[.pointer (some ⟨r,0,none⟩),.int .i64 (least:Nat)] w (zH r g w res)
 unary:∀w o cap ts res,Zp f ts=some res→zg ts→zf r g o cap ts w→Zz w→Calls Tryz.prog 125 #[.pointer (some ⟨r,0,none⟩)] w (zH r g w res)
 single:∀w o cap ts res,zQ f ts=some res→zg ts→zf r g o cap ts w→Zz w→Calls Tryz.prog 180 #[.pointer (some ⟨r,0,none⟩)] w (zH r g w res)
 row:∀w o cap ts res,yp f [] ts=some res→zg ts→zf r g o cap ts w→Zz w→Calls Tryz.prog 196 #[.pointer (some ⟨r,0,none⟩),.func (.func 44) #[.pointer (some ⟨r,0,none⟩)] #[]] w (X5 r g w res)
 brackets:∀w o cap ts res,zK f ts=some res→zg ts→zf r g o cap ts w→Zz w→Calls Tryz.prog 195 #[.pointer (some ⟨r,0,none⟩),.func (.func 44) #[.pointer (some ⟨r,0,none⟩)] #[]] w (X5 r g w res)
theorem VB.expr {r g f:Nat} (C:VB r g f) (hrl:r≠1) (w:World) (o cap:Nat) (ts:List Tk) (res:PR Ex) (hp:zh f 1 ts=some res) (hE:zg ts) (h:zf r g o cap ts w) (hl:Zz w) :
  Calls Tryz.prog 44 #[.pointer (some ⟨r,0,none⟩)] w (zH r g w res):=by
 obtain ⟨t,s,rfl⟩:=hE.cons;exact zfF r g w res h.lt.1 h.lt.2 (C.between 1 _ o cap _ res hp hE (h.alloc _) (hl.kept ((zd.refl r w).alloc _) hrl))
theorem YA {α β:Type} {x:Option (PR α)} {k:α→List Tk→Option (PR β)} {r:PR β} (h:zm x k=some r):∃r1,x=some r1:=by
 cases x with
 | none=>cases h
 | some r1=>exact ⟨r1,rfl⟩
theorem VB.next {r g f:Nat} (hrl:r≠1) (C:VB r g f)
  (HB:∀o cap least ts w res,zf r g o cap ts w→zg ts→Zz w→least≤6→zh (f+1) least ts=some res→Calls Tryz.prog 86 #[.pointer (some ⟨r,0,none⟩),.int .i64 (least:Nat)] w (zH r g w res))
  (HW:∀o cap ts w res,zf r g o cap ts w→zg ts→Zz w→zm (zQ f ts) (fun e ts=>zE f e ts)=some res→Calls Tryz.prog 148 #[.pointer (some ⟨r,0,none⟩)] w (zH r g w res)):VB r g (f+1) where
 between:=fun least w o cap ts res hp hE h hl=>by
  by_cases h6:6<least
  ·obtain ⟨t,A,rfl⟩:=hE.cons
   rw [zh,if_pos h6] at hp;exact zaN r g least w res h.lt.1 h.lt.2 h6 (C.unary _ o cap _ res hp hE (h.alloc _) (hl.kept ((zd.refl r w).alloc _) hrl))
  ·exact HB o cap least ts w res h hE hl (by omega) hp
 unary:=fun w o cap ts res hp hE h hl=>by
  obtain ⟨t,A,rfl⟩:=hE.cons;rw [Zp] at hp;simp only [zz,List.tail_cons] at hp
  by_cases hs:t.k=4∧(t.s=[45]∨t.s=[33])
  ·rw [if_pos hs] at hp
   obtain ⟨z,G⟩:=YA hp;have y:=hE.tail (by omega:t.k≠0)
   have Q:=qB r g o cap t A w z h hE hs.1 (by simpa using hs.2) fun w1 o1 cap1 hR hK=>C.unary w1 o1 cap1 A z G y hR (hl.kept hK hrl)
   have D:uJ t z=res:=by
    rw [G] at hp;rcases z with a | ⟨x,J⟩ <;> simpa [zm,uJ] using hp
   rw [←D];exact Q
  ·rw [if_neg hs] at hp
   exact QE r g o cap t A w res h hs fun w1 hR hK=>HW o cap _ w1 res hR hE (hl.kept hK hrl) hp
 row:=fun w o cap ts res hp hE h hl=>zgt r g o cap f ts w res h hE h.few hp fun w1 o1 cap1 ts1 z H y _ hR hK=>C.expr hrl w1 o1 cap1 ts1 z H y hR (hl.kept hK hrl)
 brackets:=fun w o cap ts res hp hE h hl=>by
  obtain ⟨t,A,rfl⟩:=hE.cons;rw [zK] at hp;simp only [zW,zz,List.tail_cons] at hp
  by_cases hi:zo t [40]=true
  ·rw [if_pos hi] at hp
   simp only [zm] at hp;have y:=hE.tail (zi hi)
   by_cases hj:zo (zw A) [41]=true
   ·rw [if_pos hj] at hp
    have D:Yc t A (.error 0)=res:=by unfold Yc;rw [if_pos hi,if_pos hj];simpa using hp
    rw [←D];exact vE r g o cap _ t A w (.error 0) h hE (fun _ _ h=>by cases h) fun _ hj'=>by rw [hj] at hj';cases hj'
   ·rw [if_neg hj] at hp
    change zm (yp f [] A) _=some res at hp
    obtain ⟨z,G⟩:=YA hp
    have D:Yc t A z=res:=by
     unfold Yc
     rw [if_pos hi,if_neg hj];rw [G] at hp;rcases z with a | ⟨l,J⟩
     ·simpa [zm] using hp
     ·simp only [zm] at hp
      by_cases hk:zo (zw J) [41]=true
      ·simpa [hk] using hp
      ·simpa [hk] using hp
    rw [←D];exact vE r g o cap _ t A w z h hE (fun l J he=>by subst he;exact (Ze f).2.2.2.2.2.1 _ _ _ _ G y) fun _ _ w1 o1 cap1 hR hK=>C.row w1 o1 cap1 A z G y hR (hl.kept hK hrl)
  ·rw [if_neg hi] at hp
   have D:Yc t A (.error 0)=res:=by unfold Yc;rw [if_neg hi];exact Option.some.inj hp
   rw [←D];exact vE r g o cap _ t A w (.error 0) h hE (fun _ _ h=>by cases h) fun hi'=>absurd hi' hi
 single:=fun w o cap ts res hp hE h hl=>by
  obtain ⟨t,A,rfl⟩:=hE.cons;rw [zQ] at hp;simp only [zz,List.tail_cons] at hp
  by_cases h2:t.k=2
  ·rw [if_pos h2] at hp
   simp only [Option.some.injEq] at hp;subst hp;exact QF r g o cap t A w h h2 (hE.tail (by omega)).ne
  ·rw [if_neg h2] at hp
   by_cases h3:t.k=3
   ·rw [if_pos h3] at hp
    simp only [Option.some.injEq] at hp;subst hp;exact QG r g o cap t A w h h3 (hE.tail (by omega)).ne
   ·rw [if_neg h3] at hp
    by_cases G:t.k=1
    ·rw [if_pos G] at hp
     have y:=hE.tail (by omega:t.k≠0)
     obtain ⟨u,J,rfl⟩:=y.cons;refine qC r g o cap t (u::J) w res h G fun w1 hR hK=>?_
     simp only [zz] at hp
     by_cases hi:zo u [40]=true
     ·rw [if_pos hi] at hp
      obtain ⟨z,H⟩:=YA hp
      have D:zbF t z=res:=by
       rw [H] at hp;rcases z with a | ⟨l,L⟩ <;> simpa [zm,zbF] using hp
      rw [←D];exact zaM r g o cap t u J w1 z hR G hi fun w2 o2 cap2 hR2 hK2=>C.brackets w2 o2 cap2 _ z H y hR2 ((hl.kept hK hrl).kept hK2 hrl)
     ·rw [if_neg hi] at hp
      simp only [Option.some.injEq] at hp;subst hp;exact QD r g o cap t u J w1 hR G (by simpa using hi)
    ·rw [if_neg G] at hp
     by_cases hT:zo t [116,114,117,101]=true
     ·rw [if_pos hT] at hp
      simp only [Option.some.injEq] at hp;subst hp;exact qD r g o cap t A w hT h hE G h2 h3
     ·rw [if_neg hT] at hp
      have I:zo t [116,114,117,101]=false:=by simpa using hT
      by_cases hF:zo t [102,97,108,115,101]=true
      ·rw [if_pos hF] at hp
       simp only [Option.some.injEq] at hp;subst hp;exact Ux r g o cap t A w hF h hE G h2 h3 I
      ·rw [if_neg hF] at hp
       have K:zo t [102,97,108,115,101]=false:=by simpa using hF
       by_cases hN:zo t [110,101,119]=true
       ·rw [if_pos hN] at hp
        have y:=hE.tail (zi hN);obtain ⟨u,J,rfl⟩:=y.cons;simp only [yo,zz,List.tail_cons] at hp
        by_cases hk:u.k=1
        ·rw [if_pos hk] at hp
         change zm (zK f J) _=some res at hp
         obtain ⟨z,H⟩:=YA hp
         have D:qE t u z=res:=by
          unfold qE
          rw [if_pos hk];rw [H] at hp;rcases z with a | ⟨l,L⟩ <;> simpa [zm] using hp
         rw [←D];exact VU r g o cap t u J w z hN (fun _ w2 o2 cap2 hR2 hK2=>C.brackets w2 o2 cap2 _ z H (y.tail (by omega)) hR2 (hl.kept hK2 hrl)) h hE G h2 h3 I K
        ·rw [if_neg hk] at hp
         have D:qE t u (.error 0)=res:=by unfold qE;rw [if_neg hk];simpa [zm] using hp
         rw [←D];exact VU r g o cap t u J w (.error 0) hN (fun hk'=>absurd hk' hk) h hE G h2 h3 I K
       ·rw [if_neg hN] at hp
        have N:zo t [110,101,119]=false:=by simpa using hN
        by_cases hA:zo t [91]=true
        ·rw [if_pos hA] at hp
         have y:=hE.tail (zi hA);obtain ⟨z,H⟩:=YA hp
         have D:vF t z=res:=by
          unfold vF
          rw [H] at hp;rcases z with a | ⟨l,L⟩
          ·simpa [zm] using hp
          ·simp only [zm,zW] at hp
           by_cases hk:zo (zw L) [93]=true
           ·simpa [hk] using hp
           ·simpa [hk] using hp
         rw [←D];exact Uy r g o cap t A w z hA (fun l L he=>by subst he;exact (Ze f).2.2.2.2.2.1 _ _ _ _ H y) (fun w2 o2 cap2 hR2 hK2=>C.row w2 o2 cap2 _ z H y hR2 (hl.kept hK2 hrl)) h hE G h2 h3 I K N
        ·rw [if_neg hA] at hp
         have O:zo t [91]=false:=by simpa using hA
         simp only [zW,zz,List.tail_cons] at hp
         by_cases hP:zo t [40]=true
         ·rw [if_pos hP] at hp
          change zm (zh f 1 A) _=some res at hp
          have y:=hE.tail (zi hP);obtain ⟨z,H⟩:=YA hp
          have D:xK t z=res:=by
           unfold xK
           rw [if_pos hP];rw [H] at hp;rcases z with a | ⟨l,L⟩
           ·simpa [zm] using hp
           ·simp only [zm] at hp
            by_cases hk:zo (zw L) [41]=true
            ·simpa [hk] using hp
            ·simpa [hk] using hp
          rw [←D];exact X6 r g o cap t A w z (fun l L he=>by subst he;exact (Ze f).1 _ _ _ _ H y) (fun _ w2 o2 cap2 hR2 hK2=>C.expr hrl w2 o2 cap2 _ z H y hR2 (hl.kept hK2 hrl)) h hE G h2 h3 I K N O
         ·rw [if_neg hP] at hp
          have D:xK t (.error 0)=res:=by unfold xK;rw [if_neg hP];simpa [zm] using hp
          rw [←D];exact X6 r g o cap t A w (.error 0) (fun _ _ h=>by cases h) (fun hP'=>absurd hP' hP) h hE G h2 h3 I K N O
def uN (f:Nat) (e:Ex) (ts:List Tk):Option (PR Ex):=zm (zW [93] ts) fun _ ts=>zE f e ts
theorem zeQ (r g o cap F:Nat) (ts:List Tk) (w:World) (res:PR Ex) (h:zf r g o cap ts w) (hE:zg ts) (hp:zm (zQ F ts) (fun e ts=>zE F e ts)=some res)
  (hsg:∀w1 o1 T ts1 r1,zQ F ts1=some r1→zg ts1→zf r g o1 T ts1 w1→zd r w w1→Calls Tryz.prog 180 #[.pointer (some ⟨r,0,none⟩)] w1 (zH r g w1 r1))
  (hex:∀w1 o1 T ts1 r1,zh F 1 ts1=some r1→zg ts1→zf r g o1 T ts1 w1→zd r w w1→Calls Tryz.prog 44 #[.pointer (some ⟨r,0,none⟩)] w1 (zH r g w1 r1)) :
  Calls Tryz.prog 148 #[.pointer (some ⟨r,0,none⟩)] w (zH r g w res):=by
 obtain ⟨t0,ba,rfl⟩:=hE.cons;have hr:=h.lt.1;have aO:=h.lt.2;cases hb:zQ F (t0::ba) with
 | none=>rw [hb] at hp;cases hp
 | some r1 =>
  obtain ⟨w0,aG⟩:∃w0,w0=w.alloc Zu:=⟨_,rfl⟩;have c1:=hsg w0 o cap (t0::ba) r1 hb hE (by rw [aG];exact h.alloc _) (by rw [aG];exact (zd.refl r w).alloc _)
  rw [hb] at hp;simp only [zm] at hp;have ax:Hid (w0=w.alloc Zu):=aG;have am:Hid (∀w1 o1 T ts1 r1,zh F 1 ts1=some r1→zg ts1→zf r g o1 T ts1 w1→zd r w w1→Calls Tryz.prog 44 #[.pointer (some ⟨r,0,none⟩)] w1 (zH r g w1 r1)):=hex;clear aG hex hsg
  go_enter Tryz.func148,Tryz.ntmps148
  go_wp2_with fail
  rw [←ax.out];refine c1.mono ?_;clear c1;rintro e w1 ⟨aC,y⟩;have bd:zd r w w1:=by have:=ax.out;subst this;exact ((zd.refl r w).alloc _).trans aC
  rcases r1 with a | ⟨x,us⟩
  ·obtain rfl:=y
   simp only [Option.some.injEq] at hp;subst hp;exact ⟨rfl,bd,rfl⟩
  ·obtain ⟨v,o1,T,rfl,hx,Y⟩:=y
   obtain ⟨a,b,c,d0,d1,d2,l,rfl⟩:=hx.agg;have be:=(Ze F).2.2.2.2.1 _ _ _ hb hE;have hJ:=ZT.start (p:=fun f e ts=>zE f e ts) (res:=res) ax.out hr aC hx Y hp be Y.few
   have HJ:Hid (ZT r g w1.heap.size F w res (fun f e ts=>zE f e ts) (w1.alloc (.cells #[.int .i64 a,.string b,.int .i64 c,.slice d0 d1 d2,.int .i64 l] 45))):=hJ
   have au:w.heap.size<w1.heap.size:=by have:=aC.size;have h2:=ax.out;subst h2;simp at this;omega
   obtain ⟨N,a7⟩:∃N,N=w1.heap.size:=⟨_,rfl⟩;rw [←a7] at HJ au;clear hJ hx Y aC be hp hb hE h bd ax;go_wp2_with fail
   rw [←a7];generalize hW0:w1.alloc (.cells #[.int .i64 a,.string b,.int .i64 c,.slice d0 d1 d2,.int .i64 l] 45)=W0 at *;clear hW0 a7
   go_loopw [7] (fun _ wr=>ZT r g N F w res (fun f e ts=>zE f e ts) wr) (fun _ wr=>ZQ r wr)
   case atStart=>exact HJ.out
   case round =>
    obtain ⟨e,bC,o2,z,f2,U,b2,c2,p2,q2,V,l2,bH,J,aM,bG,aq,aH,aA,a4,aD⟩:=hrel;obtain ⟨t2,O,rfl⟩:=aM.cons;obtain rfl:l2=(e.line:Int):=aH.line_eq;clear HJ;have cs:=Zt r g o2 z t2 O [91] wr aA (fun hi=>(aM.tail (zi hi)).ne)
    have az:=aA.left
    have aL:Hid (∀W,zd r wr W→zf r g o2 z (t2::O) W→W.heap[N]?=some (.cells #[.int .i64 U,.string b2,.int .i64 c2,.slice p2 q2 V,.int .i64 (e.line:Int)] 45 (0,0))∧W.heap[w.heap.size]?=some Zu ∧
     zH r g w (.ok (e,t2::O)) (.returned (.agg #[.int .i64 U,.string b2,.int .i64 c2,.slice p2 q2 V,.int .i64 (e.line:Int)])) (set5 W w.heap.size (.int .i64 U) (.string b2) (.int .i64 c2) (.slice p2 q2 V) (.int .i64 (e.line:Int)))) :=
     fun W hK Y=>ZT.leave hr aO au a4 aq aD aH hK Y
    have ai:Hid (∀W,zd r wr W→W.heap[N]?=some (.cells #[.int .i64 U,.string b2,.int .i64 c2,.slice p2 q2 V,.int .i64 (e.line:Int)] 45 (0,0))∧W.heap[w.heap.size]?=some Zu) :=
     fun W hK=>⟨(hK.block _ (Array.getElem?_eq_some_iff.1 aq).1 (by omega)).trans aq,(hK.block _ (Array.getElem?_eq_some_iff.1 aD).1 (by omega)).trans aD⟩
    have ad:Hid (zV (fun k=>w.heap.size<k∧k≠N) wr e (.agg #[.int .i64 U,.string b2,.int .i64 c2,.slice p2 q2 V,.int .i64 (e.line:Int)])):=aH
    have L:Hid (zd r w wr):=a4;have Z:Hid (zg (t2::O)):=aM;cases f2 with
    | zero=>simp [zE] at J
    | succ f3 =>
     have aX:f3≤F:=by omega
     simp only [zE,zz,List.tail_cons] at J;clear aH a4 aA aM aq aD
     by_cases hi:zo t2 [91]=true
     ·rw [hi] at cs
      rw [if_pos hi] at J;have ae:=Z.out.tail (zi hi);go_wp2_with fail
      refine cs.mono ?_;clear cs;rintro e' wE ⟨rfl,aj,av⟩;simp only [if_true] at av;obtain ⟨pN,pz⟩:=ai.out wE aj;have aa:Hid (zd r wr wE):=aj;have D:Hid (zd r w wE):=L.out.trans aj;have K:N<wE.heap.size:=(Array.getElem?_eq_some_iff.1 pN).1;cases hb3:zh f3 1 O with
      | none=>rw [hb3] at J;cases J
      | some r3 =>
       rw [hb3] at J;simp only [zm] at J
       have aW:zh F 1 O=some r3:=by
        have:=YH (k:=F-f3) hb3
        rwa [show f3+(F-f3)=F by omega] at this
       have cb:∀W:World,W.heap=wE.heap→W.os=wE.os→W.tape=wE.tape→W.output=wE.output→Calls Tryz.prog 44 #[.pointer (some ⟨r,0,none⟩)] W fun e w'=>zd r wE w'∧zH r g W r3 e w':=fun W e1 e2 e3 e4 =>
        (am.out W _ _ O r3 aW ae (av.keep (by rw [e1]) (by rw [e1])) ⟨e2.trans D.out.os,e3.trans D.out.tape,e4.trans D.out.output,by rw [e1];exact D.out.size,fun k hk hr=>by rw [e1];exact D.out.block k hk hr⟩).mono fun e w' h =>
         ⟨⟨h.1.os.trans e2,h.1.tape.trans e3,h.1.output.trans e4,by rw [←e1];exact h.1.size,fun k hk hr=>by rw [←e1];exact h.1.block k (by rw [e1];exact hk) hr⟩,h⟩
       obtain ⟨n0,n1,n2,n3,n4,nf⟩:=zR pN;have ag:Hid (wE.heap[N]?=some (.cells #[.int .i64 U,.string b2,.int .i64 c2,.slice p2 q2 V,.int .i64 (e.line:Int)] 45 (0,0))):=pN;have ab:Hid (wE.heap[w.heap.size]?=some Zu):=pz;clear pN pz av aj am ai aL;rcases r3 with a3 | ⟨x3,a0⟩
       ·simp only [Option.some.injEq] at J
        subst J;have H:∀W:World,W.heap=wE.heap→W.os=wE.os→W.tape=wE.tape→W.output=wE.output→Calls Tryz.prog 44 #[.pointer (some ⟨r,0,none⟩)] W fun e w'=>e=ZH a3∧zd r w w':=fun W e1 e2 e3 e4=>(cb W e1 e2 e3 e4).mono fun e w' h=>⟨h.2.2,D.out.trans h.1⟩
        clear cb;go_wp2_with fail
        go_region_dies
        all_goals (go_wp2_with fail;refine (H _ (by rfl) (by rfl) (by rfl) (by rfl)).mono ?_;rintro e w4 ⟨rfl,I⟩;exact ⟨rfl,I,rfl⟩)
       ·have bq:=(Ze F).1 _ _ _ _ aW ae
        have bs:=Yl aW;have ak:a0.length<ZQ r wr:=by rw [az];simp only [List.length_cons];omega
        have HT:Hid (uN f3 (.mk 8 [] 0 [e,x3] e.line) a0=some res):=J
        have H:∀W:World,W.heap=wE.heap→W.os=wE.os→W.tape=wE.tape→W.output=wE.output→Calls Tryz.prog 44 #[.pointer (some ⟨r,0,none⟩)] W fun e' w'=>∃(a3:Int) (b3:ByteArray) (c3:Int) (u0:Option Addr) (u1 u2:Nat) (l3:Int),e'=.returned (.agg #[.int .i64 a3,.string b3,.int .i64 c3,.slice u0 u1 u2,.int .i64 l3]) ∧
          w'.heap[N]?=some (.cells #[.int .i64 U,.string b2,.int .i64 c2,.slice p2 q2 V,.int .i64 (e.line:Int)] 45 (0,0))∧Hid (zd r wE w'∧ZL wE.heap.size w' x3 (.agg #[.int .i64 a3,.string b3,.int .i64 c3,.slice u0 u1 u2,.int .i64 l3])∧∃o cap,zf r g o cap a0 w'):=fun W e1 e2 e3 e4=>(cb W e1 e2 e3 e4).mono fun e' w' h=>by
         obtain ⟨I,-,v,o4,bm,rfl,hx,Y⟩:=h;obtain ⟨a3,b3,c3,u0,u1,u2,l3,rfl⟩:=hx.agg;exact ⟨a3,b3,c3,u0,u1,u2,l3,rfl,(I.block N K (by omega)).trans ag.out,I,(by rw [←e1];exact hx:ZL wE.heap.size w' x3 _),o4,bm,Y⟩
        clear cb J;go_wp2_with fail
        go_cut [] from 6 to 28 (fun wx=>ZT r g N F w res uN wx∧ZQ r wx<ZQ r wr)
        case first =>
         go_region_with (go_at_call 44;refine (H _ (by rfl) (by rfl) (by rfl) (by rfl)).mono ?_;rintro e' w7 ⟨a3,b3,c3,u0,u1,u2,l3,rfl,p7,H7⟩;have a1:N<w7.heap.size:=(Array.getElem?_eq_some_iff.1 p7).1;have ar:=(fun ob=>(Below.heap_alloc w7 ob N a1).trans p7);obtain ⟨m0,m1,m2,m3,m4,mf⟩:=zR p7;have aJ:=zj m0;have aF:=zj m1;have aP:=zj m2;have aI:=zj m3;have aS:=zj m4;have aK:=(fun ob j=>(zR (ar ob)).2.2.2.2.2 j))
         all_goals
          obtain ⟨af,bl,o7,bz,A⟩:=H7.out;obtain ⟨W,hW⟩:∃W,W=(set5 w7 N (.int .i64 8) (.string ⟨#[]⟩) (.int .i64 0) (.slice (some ⟨w7.heap.size,0,none⟩) 2 2) (.int .i64 (e.line:Int))).alloc (.cells #[.int .i64 U,.string b2,.int .i64 c2,.slice p2 q2 V,.int .i64 (e.line:Int),.int .i64 a3,.string b3,.int .i64 c3,.slice u0 u1 u2,.int .i64 l3] 45):=⟨_,rfl⟩;obtain ⟨hJ,G⟩:=ZT.two (p:=uN) 8 [] hr aO au K ad.out L.out aa.out af p7 ab.out bl A aX HT.out bq A.few (.int .i64 8) rfl W hW;have ay:Hid (ZT r g N F w res uN W∧ZQ r W<ZQ r wr):=show _∧_<_ from ⟨hJ,by rw [G];exact ak⟩
          change Exit.then _ _ _ _ ((set5 w7 N (.int .i64 8) (.string ⟨#[]⟩) (.int .i64 0) (.slice (some ⟨w7.heap.size,0,none⟩) 2 2) (.int .i64 (e.line:Int))).alloc (.cells #[.int .i64 U,.string b2,.int .i64 c2,.slice p2 q2 V,.int .i64 (e.line:Int),.int .i64 a3,.string b3,.int .i64 c3,.slice u0 u1 u2,.int .i64 l3] 45))
          rw [←hW];clear hW hJ G A bl af p7 ar m0 m1 m2 m3 m4 mf aJ aF aP aI aS aK n0 n1 n2 n3 n4 nf H H7 ag ab HT aa D ad L Z bs ak bq ae;go_wp2_with fail
          go_meet
          exact ay.out
        case rest =>
         obtain ⟨⟨e5,bD,o5,aV,f5,a5,b5,c5,p5,q5,s5,l5,br,ah,a6,bB,al,aZ,ao,aR,aY⟩,bA⟩:=hcut;obtain ⟨t5,bn,rfl⟩:=a6.cons;have cn:=yB r g o5 aV t5 bn [93] wc ao (fun hi=>(a6.tail (zi hi)).ne)
         have aE:=ao.left
         unfold uN zW at ah
         simp only [zz,List.tail_cons] at ah
         by_cases hm:zo t5 [93]=true
         ·simp only [if_pos hm] at cn
          rw [if_pos hm] at ah
          have bh:Hid (∀W,zd r wc W→zf r g (o5+5) (aV-1) bn W→ZT r g N F w res (fun f e ts=>zE f e ts) W∧ZQ r W<ZQ r wr):=fun W hK hR =>
           ⟨ZT.moved (p:=fun f e ts=>zE f e ts) hr au al aZ aR aY hK hR br ah (a6.tail (zi hm)),by rw [hR.left];simp only [List.length_cons] at aE;omega⟩
          clear ah al aZ ao aR aY H HT ad L Z aa D ag ab n0 n1 n2 n3 n4 nf;go_wp2_with fail
          refine cn.mono ?_;clear cn;rintro e9 w9 ⟨aB,rfl,bk⟩;have bx:Hid (ZT r g N F w res (fun f e ts=>zE f e ts) w9∧ZQ r w9<ZQ r wr):=bh.out w9 aB bk
          clear bh aB bk;go_wp2
          exact bx.out
         ·simp only [if_neg hm] at cn
          rw [if_neg hm] at ah;simp only [zm,Option.some.injEq] at ah;subst ah;have bt:Hid (zd r w wc):=aR;clear al aZ ao aR aY H HT ad L Z aa D ag ab n0 n1 n2 n3 n4 nf;go_wp2_with fail
          refine cn.mono ?_;clear cn;rintro e9 w9 ⟨aB,rfl⟩;exact ⟨rfl,bt.out.trans aB,rfl⟩
     ·have bw:zo t2 [91]=false:=by simpa using hi
      rw [bw] at cs;rw [if_neg hi] at J;go_wp2_with fail
      refine cs.mono ?_;clear cs;rintro e' wB ⟨rfl,a9,bb⟩;have aU:zf r g o2 z (t2::O) wB:=by simpa using bb
      have cd:=Zt r g o2 z t2 O [46] wB aU (fun hi=>(Z.out.tail (zi hi)).ne)
      have aQ:Hid (zd r wr wB):=a9;clear a9 bb aU
      by_cases hd:zo t2 [46]=true
      ·rw [hd] at cd
       rw [if_pos hd] at J;have ae:=Z.out.tail (zi hd);obtain ⟨R,Q,rfl⟩:=ae.cons;go_wp2_with fail
       refine cd.mono ?_;clear cd;rintro e' wE ⟨rfl,aj,av⟩;have an:zd r wr wE:=aQ.out.trans aj;have aT:zf r g (o2+5) (z-1) (R::Q) wE:=by simpa using av
       obtain ⟨pN,pz⟩:=ai.out wE an;have aa:Hid (zd r wr wE):=an;have D:Hid (zd r w wE):=L.out.trans an;have K:N<wE.heap.size:=(Array.getElem?_eq_some_iff.1 pN).1;have aw:Hid (zf r g (o2+5) (z-1) (R::Q) wE):=aT;obtain ⟨n0,n1,n2,n3,n4,nf⟩:=zR pN;have bf:=zj n0;have bj:=zj n1;have bc:=zj n2;have bo:=zj n3;have bg:=zj n4;have ag:Hid (wE.heap[N]?=some (.cells #[.int .i64 U,.string b2,.int .i64 c2,.slice p2 q2 V,.int .i64 (e.line:Int)] 45 (0,0))):=pN;have ab:Hid (wE.heap[w.heap.size]?=some Zu):=pz
       have cb:∀W:World,zd r wE W→zf r g (o2+5) (z-1) (R::Q) W→Calls Tryz.prog 94 #[.pointer (some ⟨r,0,none⟩)] W fun e w'=>zd r W w'∧if R.k=1 then e=.returned (.string (zb R.s))∧zf r g (o2+5+5) (z-1-1) Q w' else e=ZH R.at0:=fun W hK hR =>
        xe r g _ _ R Q W hR (fun hk=>(ae.tail (by omega)).ne)
       simp only [yo,zz,List.tail_cons] at J;clear pN pz av aT aj an aQ ai aL am
       by_cases h3:R.k=1
       ·rw [if_pos h3] at J
        have aN:=ae.tail (by omega:R.k≠0)
        have ak:Q.length<ZQ r wr:=by rw [az];simp only [List.length_cons];omega
        have HT:Hid (zE f3 (.mk 9 R.s 0 [e] e.line) Q=some res):=J
        have H:∀W:World,zd r wE W→zf r g (o2+5) (z-1) (R::Q) W→Calls Tryz.prog 94 #[.pointer (some ⟨r,0,none⟩)] W fun e' w'=>e'=.returned (.string (zb R.s))∧w'.heap[N]?=some (.cells #[.int .i64 U,.string b2,.int .i64 c2,.slice p2 q2 V,.int .i64 (e.line:Int)] 45 (0,0))∧W.heap.size≤w'.heap.size∧Hid (zd r W w'∧zf r g (o2+5+5) (z-1-1) Q w'):=fun W hK hR=>(cb W hK hR).mono fun e' w' h=>by
         obtain ⟨I,y⟩:=h;rw [if_pos h3] at y;obtain ⟨rfl,Y⟩:=y;exact ⟨rfl,(I.block N (Nat.lt_of_lt_of_le K hK.size) (by omega)).trans ((hK.block N K (by omega)).trans ag.out),I.size,I,Y⟩
        clear cb J;go_wp2_with fail
        go_region_with (go_at_call 94;refine (H _ (by first | exact zd.drew r wE | exact ((zd.refl r wE).alloc _).trans (zd.drew _ _)) (by first | exact aw.out.keep rfl rfl | exact (aw.out.alloc _).keep rfl rfl)).mono ?_;rintro e' w7 ⟨rfl,p7,bF,H7⟩;have a1:N<w7.heap.size:=(Array.getElem?_eq_some_iff.1 p7).1;have ar:=(fun ob=>(Below.heap_alloc w7 ob N a1).trans p7);obtain ⟨m0,m1,m2,m3,m4,mf⟩:=zR p7;have aJ:=zj m0;have aF:=zj m1;have aP:=zj m2;have aI:=zj m3;have aS:=zj m4;have aK:=(fun ob j=>(zR (ar ob)).2.2.2.2.2 j))
        all_goals (obtain ⟨ap,A⟩:=H7.out)
        all_goals first
         | (have af:zd r wE w7:=(zd.drew r wE).trans ap
            obtain ⟨W,hW⟩:∃W,W=(set5 w7 N (.int .i64 9) (.string (zb R.s)) (.int .i64 0) (.slice (some ⟨w7.heap.size,0,none⟩) 1 1) (.int .i64 (e.line:Int))).alloc (.cells #[.int .i64 U,.string b2,.int .i64 c2,.slice p2 q2 V,.int .i64 (e.line:Int)] 45):=⟨_,rfl⟩;obtain ⟨hJ,G⟩:=ZT.one (p:=fun f e ts=>zE f e ts) 9 R.s hr aO au K ad.out L.out aa.out af p7 ab.out A aX HT.out aN A.few (.int .i64 9) rfl W hW
            have ay:Hid (ZT r g N F w res (fun f e ts=>zE f e ts) W∧ZQ r W<ZQ r wr):=show _∧_<_ from ⟨hJ,by rw [G];exact ak⟩
            change Exit.inBlock _ _ _ _ ((set5 w7 N (.int .i64 9) (.string (zb R.s)) (.int .i64 0) (.slice (some ⟨w7.heap.size,0,none⟩) 1 1) (.int .i64 (e.line:Int))).alloc (.cells #[.int .i64 U,.string b2,.int .i64 c2,.slice p2 q2 V,.int .i64 (e.line:Int)] 45))
            rw [←hW];clear hW hJ G A af ap p7 ar m0 m1 m2 m3 m4 mf aJ aF aP aI aS aK n0 n1 n2 n3 n4 nf bf bj bc bo bg H H7 ag ab HT aa D ad L Z ak aN ae aw;go_wp2
            exact ay.out)
         | (have af:zd r (wE.alloc (.cells #[.int .i64 U,.string b2,.int .i64 c2,.slice p2 q2 V,.int .i64 (e.line:Int)] 45)) w7:=(zd.drew r (wE.alloc (.cells #[.int .i64 U,.string b2,.int .i64 c2,.slice p2 q2 V,.int .i64 (e.line:Int)] 45))).trans ap
            obtain ⟨W,hW⟩:∃W,W=set5 w7 N (.int .i64 9) (.string (zb R.s)) (.int .i64 0) (.slice (some ⟨wE.heap.size,0,none⟩) 1 1) (.int .i64 (e.line:Int)):=⟨_,rfl⟩;obtain ⟨hJ,G⟩:=ZT.one' (p:=fun f e ts=>zE f e ts) 9 R.s hr aO au K ad.out L.out aa.out af p7 ab.out A aX HT.out aN (.int .i64 9) rfl W hW
            have ay:Hid (ZT r g N F w res (fun f e ts=>zE f e ts) W∧ZQ r W<ZQ r wr):=show _∧_<_ from ⟨hJ,by rw [G];exact ak⟩
            change Exit.inBlock _ _ _ _ (set5 w7 N (.int .i64 9) (.string (zb R.s)) (.int .i64 0) (.slice (some ⟨wE.heap.size,0,none⟩) 1 1) (.int .i64 (e.line:Int)))
            rw [←hW];clear hW hJ G A af ap p7 ar m0 m1 m2 m3 m4 mf aJ aF aP aI aS aK n0 n1 n2 n3 n4 nf bf bj bc bo bg H H7 ag ab HT aa D ad L Z ak aN ae aw;go_wp2
            exact ay.out)
       ·rw [if_neg h3] at J
        simp only [zm,Option.some.injEq] at J;subst J
        have H:∀W:World,zd r wE W→zf r g (o2+5) (z-1) (R::Q) W→Calls Tryz.prog 94 #[.pointer (some ⟨r,0,none⟩)] W fun e w'=>e=ZH R.at0∧zd r w w':=fun W hK hR=>(cb W hK hR).mono fun e w' h=>by
         obtain ⟨I,y⟩:=h;rw [if_neg h3] at y;exact ⟨y,D.out.trans (hK.trans I)⟩
        clear cb;go_wp2_with fail
        go_region_dies
        all_goals
         go_wp2_with fail
         refine (H _ ?_ ?_).mono ?_
         ·first | exact zd.drew r wE | exact ((zd.refl r wE).alloc _).trans (zd.drew _ _)
         ·first | exact aw.out.keep rfl rfl | exact (aw.out.alloc _).keep rfl rfl
         ·rintro e w4 ⟨rfl,I⟩;exact ⟨rfl,I,rfl⟩
      ·have bv:zo t2 [46]=false:=by simpa using hd
       rw [bv] at cd;rw [if_neg hd] at J;simp only [Option.some.injEq] at J;subst J;go_wp2_with fail
       refine cd.mono ?_;clear cd;rintro e' wC ⟨rfl,bi,a8⟩;obtain ⟨pN,pz,bp⟩:=aL.out wC (aQ.out.trans bi) (by simpa using a8)
       obtain ⟨n0,n1,n2,n3,n4,nf⟩:=zR pN;obtain ⟨q0,q1,bE,q3,q4,qf⟩:=zR pz;obtain ⟨z0,z1,z2,z3,z4⟩:=zT pz (.int .i64 U) (.string b2) (.int .i64 c2) (.slice p2 q2 V) (.int .i64 (e.line:Int));have bu:Hid (zH r g w (.ok (e,t2::O)) (.returned (.agg #[.int .i64 U,.string b2,.int .i64 c2,.slice p2 q2 V,.int .i64 (e.line:Int)])) (set5 wC w.heap.size (.int .i64 U) (.string b2) (.int .i64 c2) (.slice p2 q2 V) (.int .i64 (e.line:Int)))):=bp;clear aL am ad L Z bp pN pz bi a8 aQ ai;go_wp2
       exact bodyPost_ret (v:=.agg #[.int .i64 U,.string b2,.int .i64 c2,.slice p2 q2 V,.int .i64 (e.line:Int)]) (by simp [results,Tryz.results148,go_sem,z0,z1,z2,z3,z4]) rfl bu.out
theorem zdE (r g:Nat) (hrl:r≠1):∀f,VB r g f:=by
 intro f
 induction f with
 | zero=>exact ⟨fun _ _ _ _ _ _ h=>by simp [zh] at h,fun _ _ _ _ _ h=>by simp [Zp] at h,fun _ _ _ _ _ h=>by simp [zQ] at h,fun _ _ _ _ _ h=>by simp [yp] at h,fun _ _ _ _ _ h=>by simp [zK] at h⟩
 | succ f C =>
  refine C.next hrl (fun o cap least ts w res h hE hl h6 hp=>?_) (fun o cap ts w res h hE hl hp=>?_)
  ·refine zco r g o cap f least ts w res h hE h.few hl hrl h6 hp fun w1 o1 cap1 ts1 r1 hb hE1 _ hR hK=>?_
   have:=C.between (least+1) w1 o1 cap1 ts1 r1 hb hE1 hR (hl.kept hK hrl)
   simpa using this
  ·exact zeQ r g o cap f ts w res h hE hp (fun w1 o1 cap1 ts1 r1 hb hE1 hR hK=>C.single w1 o1 cap1 ts1 r1 hb hE1 hR (hl.kept hK hrl)) fun w1 o1 cap1 ts1 r1 hb hE1 hR hK=>C.expr hrl w1 o1 cap1 ts1 r1 hb hE1 hR (hl.kept hK hrl)
structure zfY (r g f:Nat):Prop where
 stmt:∀w o cap ts res,Zw f ts=some res→zg ts→zf r g o cap ts w→Zz w→Calls Tryz.prog 136 #[.pointer (some ⟨r,0,none⟩)] w (ZG r g w res)
 block:∀w o cap ts res,zO f ts=some res→zg ts→zf r g o cap ts w→Zz w→Calls Tryz.prog 100 #[.pointer (some ⟨r,0,none⟩)] w (XD r g w res)
theorem zfZ (r g:Nat) (hrl:r≠1):∀f,zfY r g f:=by
 intro f
 induction f with
 | zero=>exact ⟨fun _ _ _ _ _ h=>by simp [Zw] at h,fun _ _ _ _ _ h=>by simp [zO] at h⟩
 | succ f C =>
  refine ⟨fun w o cap ts res hp hE h hl=>?_,fun w o cap ts res hp hE h hl=>?_⟩
  ·exact QT r g o cap f ts w res h hE hp (fun w1 o1 cap1 ts1 r1 hb hE1 hR hK=>(zdE r g hrl f).expr hrl w1 o1 cap1 ts1 r1 hb hE1 hR (hl.kept hK hrl)) (fun w1 o1 cap1 ts1 r1 hb hE1 hR hK=>C.block w1 o1 cap1 ts1 r1 hb hE1 hR (hl.kept hK hrl))
  ·exact zeF r g o cap f ts w res h hE hp (fun w1 o1 cap1 ts1 r1 hb hE1 hR hK=>C.stmt w1 o1 cap1 ts1 r1 hb hE1 hR (hl.kept hK hrl))
end Go.Proofs.YtpejpbbdgblbeaaGreatDoor
