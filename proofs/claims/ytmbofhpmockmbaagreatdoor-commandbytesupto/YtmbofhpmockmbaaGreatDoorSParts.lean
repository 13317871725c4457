import Derived.Test.YtmbofhpmockmbaaGreatDoorMC28
import Derived.Test.YtmbofhpmockmbaaGreatDoorSSingle3
import Derived.Deep.RegionWith
import Derived.Deep.DeepCutAuto
import Derived.Deep.CutRange
namespace Go.Proofs.YtmbofhpmockmbaaGreatDoor
open Go.RowKit Go.Shelf
set_option maxHeartbeats 16000000
set_option maxRecDepth 100000
def xf (f:Nat) (e:Ex) (ts:List Tk):Option (PR Ex):=zo (Zj [93] ts) fun _ ts=>zm f e ts
theorem Ug (r g o cap F:Nat) (ts:List Tk) (w:World) (res:PR Ex) (h:zc r g o cap ts w) (hE:zj ts) (hp:zo (zw F ts) (fun e ts=>zm F e ts)=some res)
  (hsg:∀w1 o1 O ts1 r1,zw F ts1=some r1→zj ts1→zc r g o1 O ts1 w1→zb r w w1→Calls Tryz.prog 168 #[.pointer (some ⟨r,0,none⟩)] w1 (zk r g w1 r1))
  (hex:∀w1 o1 O ts1 r1,zd F 1 ts1=some r1→zj ts1→zc r g o1 O ts1 w1→zb r w w1→Calls Tryz.prog 74 #[.pointer (some ⟨r,0,none⟩)] w1 (zk r g w1 r1)) :
  Calls Tryz.prog 147 #[.pointer (some ⟨r,0,none⟩)] w (zk r g w res):=by
 obtain ⟨t0,ba,rfl⟩:=hE.cons;have hr:=h.lt.1;have aN:=h.lt.2;cases hb:zw F (t0::ba) with
 | none=>rw [hb] at hp;cases hp
 | some r1 =>
  obtain ⟨w0,aQ⟩:∃w0,w0=w.alloc zD:=⟨_,rfl⟩;have c1:=hsg w0 o cap (t0::ba) r1 hb hE (by rw [aQ];exact h.alloc _) (by rw [aQ];exact (zb.refl r w).alloc _)
  rw [hb] at hp;simp only [zo] at hp;have ax:Hid (w0=w.alloc zD):=aQ;have am:Hid (∀w1 o1 O ts1 r1,zd F 1 ts1=some r1→zj ts1→zc r g o1 O ts1 w1→zb r w w1→Calls Tryz.prog 74 #[.pointer (some ⟨r,0,none⟩)] w1 (zk r g w1 r1)):=hex;clear aQ hex hsg
  go_enter Tryz.func147,Tryz.ntmps147
  go_wp2_with fail
  rw [←ax.out];refine c1.mono ?_;clear c1;rintro e w1 ⟨aL,z⟩;have bp:zb r w w1:=by have:=ax.out;subst this;exact ((zb.refl r w).alloc _).trans aL
  rcases r1 with a | ⟨x,us⟩
  ·obtain rfl:=z
   simp only [Option.some.injEq] at hp;subst hp;exact ⟨rfl,bp,rfl⟩
  ·obtain ⟨v,o1,O,rfl,hx,ad⟩:=z
   obtain ⟨a,b,c,d0,d1,d2,l,rfl⟩:=hx.agg;have bf:=(zX F).2.2.2.2.1 _ _ _ hb hE;have hJ:=zJ.start (p:=fun f e ts=>zm f e ts) (res:=res) ax.out hr aL hx ad hp bf ad.few
   have HJ:Hid (zJ r g w1.heap.size F w res (fun f e ts=>zm f e ts) (w1.alloc (.cells #[.int .i64 a,.string b,.int .i64 c,.slice d0 d1 d2,.int .i64 l] 90))):=hJ
   have aq:w.heap.size<w1.heap.size:=by have:=aL.size;have h2:=ax.out;subst h2;simp at this;omega
   obtain ⟨N,a4⟩:∃N,N=w1.heap.size:=⟨_,rfl⟩;rw [←a4] at HJ aq;clear hJ hx ad aL bf hp hb hE h bp ax;go_wp2_with fail
   rw [←a4];generalize hW0:w1.alloc (.cells #[.int .i64 a,.string b,.int .i64 c,.slice d0 d1 d2,.int .i64 l] 90)=W0 at *;clear hW0 a4
   go_loopw [7] (fun _ wr=>zJ r g N F w res (fun f e ts=>zm f e ts) wr) (fun _ wr=>Ze r wr)
   case atStart=>exact HJ.out
   case round =>
    obtain ⟨e,bA,o2,y,f2,Z,b2,c2,U,Y,R,l2,bG,J,aC,bD,ao,aP,az,aV,aK⟩:=hrel;obtain ⟨t2,L,rfl⟩:=aC.cons;obtain rfl:l2=(e.line:Int):=aP.line_eq;clear HJ;have cs:=Zb r g o2 y t2 L [91] wr az (fun hi=>(aC.tail (zf hi)).ne)
    have aw:=az.left
    have aD:Hid (∀W,zb r wr W→zc r g o2 y (t2::L) W→W.heap[N]?=some (.cells #[.int .i64 Z,.string b2,.int .i64 c2,.slice U Y R,.int .i64 (e.line:Int)] 90 (0,0))∧W.heap[w.heap.size]?=some zD ∧
     zk r g w (.ok (e,t2::L)) (.returned (.agg #[.int .i64 Z,.string b2,.int .i64 c2,.slice U Y R,.int .i64 (e.line:Int)])) (set5 W w.heap.size (.int .i64 Z) (.string b2) (.int .i64 c2) (.slice U Y R) (.int .i64 (e.line:Int)))) :=
     fun W hK ad=>zJ.leave hr aN aq aV ao aK aP hK ad
    have ae:Hid (∀W,zb r wr W→W.heap[N]?=some (.cells #[.int .i64 Z,.string b2,.int .i64 c2,.slice U Y R,.int .i64 (e.line:Int)] 90 (0,0))∧W.heap[w.heap.size]?=some zD) :=
     fun W hK=>⟨(hK.block _ (Array.getElem?_eq_some_iff.1 ao).1 (by omega)).trans ao,(hK.block _ (Array.getElem?_eq_some_iff.1 aK).1 (by omega)).trans aK⟩
    have X:Hid (zB (fun k=>w.heap.size<k∧k≠N) wr e (.agg #[.int .i64 Z,.string b2,.int .i64 c2,.slice U Y R,.int .i64 (e.line:Int)])):=aP
    have K:Hid (zb r w wr):=aV;have ab:Hid (zj (t2::L)):=aC;cases f2 with
    | zero=>simp [zm] at J
    | succ f3 =>
     have a1:f3≤F:=by omega
     simp only [zm,zG,List.tail_cons] at J;clear aP aV az aC ao aK
     by_cases hi:zp t2 [91]=true
     ·rw [hi] at cs
      rw [if_pos hi] at J;have aa:=ab.out.tail (zf hi);go_wp2_with fail
      refine cs.mono ?_;clear cs;rintro e' wE ⟨rfl,aj,au⟩;simp only [if_true] at au;obtain ⟨pN,pz⟩:=ae.out wE aj;have T:Hid (zb r wr wE):=aj;have D:Hid (zb r w wE):=K.out.trans aj;have I:N<wE.heap.size:=(Array.getElem?_eq_some_iff.1 pN).1;cases hb3:zd f3 1 L with
      | none=>rw [hb3] at J;cases J
      | some r3 =>
       rw [hb3] at J;simp only [zo] at J
       have aY:zd F 1 L=some r3:=by
        have:=ZS (k:=F-f3) hb3
        rwa [show f3+(F-f3)=F by omega] at this
       have cb:∀W:World,W.heap=wE.heap→W.os=wE.os→W.tape=wE.tape→W.output=wE.output→Calls Tryz.prog 74 #[.pointer (some ⟨r,0,none⟩)] W fun e w'=>zb r wE w'∧zk r g W r3 e w':=fun W e1 e2 e3 e4 =>
        (am.out W _ _ L r3 aY aa (au.keep (by rw [e1]) (by rw [e1])) ⟨e2.trans D.out.os,e3.trans D.out.tape,e4.trans D.out.output,by rw [e1];exact D.out.size,fun k hk hr=>by rw [e1];exact D.out.block k hk hr⟩).mono fun e w' h =>
         ⟨⟨h.1.os.trans e2,h.1.tape.trans e3,h.1.output.trans e4,by rw [←e1];exact h.1.size,fun k hk hr=>by rw [←e1];exact h.1.block k (by rw [e1];exact hk) hr⟩,h⟩
       obtain ⟨n0,n1,n2,n3,n4,nf⟩:=zt pN;have ah:Hid (wE.heap[N]?=some (.cells #[.int .i64 Z,.string b2,.int .i64 c2,.slice U Y R,.int .i64 (e.line:Int)] 90 (0,0))):=pN;have V:Hid (wE.heap[w.heap.size]?=some zD):=pz;clear pN pz au aj am ae aD;rcases r3 with a3 | ⟨x3,aZ⟩
       ·simp only [Option.some.injEq] at J
        subst J;have H:∀W:World,W.heap=wE.heap→W.os=wE.os→W.tape=wE.tape→W.output=wE.output→Calls Tryz.prog 74 #[.pointer (some ⟨r,0,none⟩)] W fun e w'=>e=Zn a3∧zb r w w':=fun W e1 e2 e3 e4=>(cb W e1 e2 e3 e4).mono fun e w' h=>⟨h.2.2,D.out.trans h.1⟩
        clear cb;go_wp2_with fail
        go_region_dies
        all_goals (go_wp2_with fail;refine (H _ (by rfl) (by rfl) (by rfl) (by rfl)).mono ?_;rintro e w4 ⟨rfl,G⟩;exact ⟨rfl,G,rfl⟩)
       ·have bh:=(zX F).1 _ _ _ _ aY aa
        have bt:=ZD aY;have ai:aZ.length<Ze r wr:=by rw [aw];simp only [List.length_cons];omega
        have HT:Hid (xf f3 (.mk 8 [] 0 [e,x3] e.line) aZ=some res):=J
        have H:∀W:World,W.heap=wE.heap→W.os=wE.os→W.tape=wE.tape→W.output=wE.output→Calls Tryz.prog 74 #[.pointer (some ⟨r,0,none⟩)] W fun e' w'=>∃(a3:Int) (b3:ByteArray) (c3:Int) (u0:Option Addr) (u1 u2:Nat) (l3:Int),e'=.returned (.agg #[.int .i64 a3,.string b3,.int .i64 c3,.slice u0 u1 u2,.int .i64 l3]) ∧
          w'.heap[N]?=some (.cells #[.int .i64 Z,.string b2,.int .i64 c2,.slice U Y R,.int .i64 (e.line:Int)] 90 (0,0))∧Hid (zb r wE w'∧zQ wE.heap.size w' x3 (.agg #[.int .i64 a3,.string b3,.int .i64 c3,.slice u0 u1 u2,.int .i64 l3])∧∃o cap,zc r g o cap aZ w'):=fun W e1 e2 e3 e4=>(cb W e1 e2 e3 e4).mono fun e' w' h=>by
         obtain ⟨G,-,v,o4,bn,rfl,hx,ad⟩:=h;obtain ⟨a3,b3,c3,u0,u1,u2,l3,rfl⟩:=hx.agg;exact ⟨a3,b3,c3,u0,u1,u2,l3,rfl,(G.block N I (by omega)).trans ah.out,G,(by rw [←e1];exact hx:zQ wE.heap.size w' x3 _),o4,bn,ad⟩
        clear cb J;go_wp2_with fail
        go_cut [] from 6 to 28 (fun wx=>zJ r g N F w res xf wx∧Ze r wx<Ze r wr)
        case first =>
         go_region_with (go_at_call 74;refine (H _ (by rfl) (by rfl) (by rfl) (by rfl)).mono ?_;rintro e' w7 ⟨a3,b3,c3,u0,u1,u2,l3,rfl,p7,H7⟩;have aX:N<w7.heap.size:=(Array.getElem?_eq_some_iff.1 p7).1;have ar:=(fun ob=>(Below.heap_alloc w7 ob N aX).trans p7);obtain ⟨m0,m1,m2,m3,m4,mf⟩:=zt p7;have aF:=ze m0;have aM:=ze m1;have aO:=ze m2;have aI:=ze m3;have aH:=ze m4;have aR:=(fun ob j=>(zt (ar ob)).2.2.2.2.2 j))
         all_goals
          obtain ⟨ag,a9,o7,bx,A⟩:=H7.out;obtain ⟨W,hW⟩:∃W,W=(set5 w7 N (.int .i64 8) (.string ⟨#[]⟩) (.int .i64 0) (.slice (some ⟨w7.heap.size,0,none⟩) 2 2) (.int .i64 (e.line:Int))).alloc (.cells #[.int .i64 Z,.string b2,.int .i64 c2,.slice U Y R,.int .i64 (e.line:Int),.int .i64 a3,.string b3,.int .i64 c3,.slice u0 u1 u2,.int .i64 l3] 90):=⟨_,rfl⟩;obtain ⟨hJ,E⟩:=zJ.two (p:=xf) 8 [] hr aN aq I X.out K.out T.out ag p7 V.out a9 A a1 HT.out bh A.few (.int .i64 8) rfl W hW;have ay:Hid (zJ r g N F w res xf W∧Ze r W<Ze r wr):=show _∧_<_ from ⟨hJ,by rw [E];exact ai⟩
          change Exit.then _ _ _ _ ((set5 w7 N (.int .i64 8) (.string ⟨#[]⟩) (.int .i64 0) (.slice (some ⟨w7.heap.size,0,none⟩) 2 2) (.int .i64 (e.line:Int))).alloc (.cells #[.int .i64 Z,.string b2,.int .i64 c2,.slice U Y R,.int .i64 (e.line:Int),.int .i64 a3,.string b3,.int .i64 c3,.slice u0 u1 u2,.int .i64 l3] 90))
          rw [←hW];clear hW hJ E A a9 ag p7 ar m0 m1 m2 m3 m4 mf aF aM aO aI aH aR n0 n1 n2 n3 n4 nf H H7 ah V HT T D X K ab bt ai bh aa;go_wp2_with fail
          go_meet
          exact ay.out
        case rest =>
         obtain ⟨⟨e5,bF,o5,aT,f5,a5,b5,c5,p5,q5,s5,l5,bw,af,a6,bB,ak,a0,al,aJ,aW⟩,bz⟩:=hcut;obtain ⟨t5,bl,rfl⟩:=a6.cons;have cn:=Yo r g o5 aT t5 bl [93] wc al (fun hi=>(a6.tail (zf hi)).ne)
         have aB:=al.left
         unfold xf Zj at af
         simp only [zG,List.tail_cons] at af
         by_cases hm:zp t5 [93]=true
         ·simp only [if_pos hm] at cn
          rw [if_pos hm] at af
          have bg:Hid (∀W,zb r wc W→zc r g (o5+5) (aT-1) bl W→zJ r g N F w res (fun f e ts=>zm f e ts) W∧Ze r W<Ze r wr):=fun W hK hR =>
           ⟨zJ.moved (p:=fun f e ts=>zm f e ts) hr aq ak a0 aJ aW hK hR bw af (a6.tail (zf hm)),by rw [hR.left];simp only [List.length_cons] at aB;omega⟩
          clear af ak a0 al aJ aW H HT X K ab T D ah V n0 n1 n2 n3 n4 nf;go_wp2_with fail
          refine cn.mono ?_;clear cn;rintro e9 w9 ⟨aG,rfl,bk⟩;have bu:Hid (zJ r g N F w res (fun f e ts=>zm f e ts) w9∧Ze r w9<Ze r wr):=bg.out w9 aG bk
          clear bg aG bk;go_wp2
          exact bu.out
         ·simp only [if_neg hm] at cn
          rw [if_neg hm] at af;simp only [zo,Option.some.injEq] at af;subst af;have br:Hid (zb r w wc):=aJ;clear ak a0 al aJ aW H HT X K ab T D ah V n0 n1 n2 n3 n4 nf;go_wp2_with fail
          refine cn.mono ?_;clear cn;rintro e9 w9 ⟨aG,rfl⟩;exact ⟨rfl,br.out.trans aG,rfl⟩
     ·have bq:zp t2 [91]=false:=by simpa using hi
      rw [bq] at cs;rw [if_neg hi] at J;go_wp2_with fail
      refine cs.mono ?_;clear cs;rintro e' wB ⟨rfl,a8,a7⟩;have aU:zc r g o2 y (t2::L) wB:=by simpa using a7
      have cd:=Zb r g o2 y t2 L [46] wB aU (fun hi=>(ab.out.tail (zf hi)).ne)
      have aE:Hid (zb r wr wB):=a8;clear a8 a7 aU
      by_cases hd:zp t2 [46]=true
      ·rw [hd] at cd
       rw [if_pos hd] at J;have aa:=ab.out.tail (zf hd);obtain ⟨Q,M,rfl⟩:=aa.cons;go_wp2_with fail
       refine cd.mono ?_;clear cd;rintro e' wE ⟨rfl,aj,au⟩;have an:zb r wr wE:=aE.out.trans aj;have aS:zc r g (o2+5) (y-1) (Q::M) wE:=by simpa using au
       obtain ⟨pN,pz⟩:=ae.out wE an;have T:Hid (zb r wr wE):=an;have D:Hid (zb r w wE):=K.out.trans an;have I:N<wE.heap.size:=(Array.getElem?_eq_some_iff.1 pN).1;have av:Hid (zc r g (o2+5) (y-1) (Q::M) wE):=aS;obtain ⟨n0,n1,n2,n3,n4,nf⟩:=zt pN;have bm:=ze n0;have bi:=ze n1;have bo:=ze n2;have be:=ze n3;have bj:=ze n4;have ah:Hid (wE.heap[N]?=some (.cells #[.int .i64 Z,.string b2,.int .i64 c2,.slice U Y R,.int .i64 (e.line:Int)] 90 (0,0))):=pN;have V:Hid (wE.heap[w.heap.size]?=some zD):=pz
       have cb:∀W:World,zb r wE W→zc r g (o2+5) (y-1) (Q::M) W→Calls Tryz.prog 171 #[.pointer (some ⟨r,0,none⟩)] W fun e w'=>zb r W w'∧if Q.k=1 then e=.returned (.string (za Q.s))∧zc r g (o2+5+5) (y-1-1) M w' else e=Zn Q.at0:=fun W hK hR =>
        Xh r g _ _ Q M W hR (fun hk=>(aa.tail (by omega)).ne)
       simp only [Yg,zG,List.tail_cons] at J;clear pN pz au aS aj an aE ae aD am
       by_cases h3:Q.k=1
       ·rw [if_pos h3] at J
        have aA:=aa.tail (by omega:Q.k≠0)
        have ai:M.length<Ze r wr:=by rw [aw];simp only [List.length_cons];omega
        have HT:Hid (zm f3 (.mk 9 Q.s 0 [e] e.line) M=some res):=J
        have H:∀W:World,zb r wE W→zc r g (o2+5) (y-1) (Q::M) W→Calls Tryz.prog 171 #[.pointer (some ⟨r,0,none⟩)] W fun e' w'=>e'=.returned (.string (za Q.s))∧w'.heap[N]?=some (.cells #[.int .i64 Z,.string b2,.int .i64 c2,.slice U Y R,.int .i64 (e.line:Int)] 90 (0,0))∧W.heap.size≤w'.heap.size∧Hid (zb r W w'∧zc r g (o2+5+5) (y-1-1) M w'):=fun W hK hR=>(cb W hK hR).mono fun e' w' h=>by
         obtain ⟨G,z⟩:=h;rw [if_pos h3] at z;obtain ⟨rfl,ad⟩:=z;exact ⟨rfl,(G.block N (Nat.lt_of_lt_of_le I hK.size) (by omega)).trans ((hK.block N I (by omega)).trans ah.out),G.size,G,ad⟩
        clear cb J;go_wp2_with fail
        go_region_with (go_at_call 171;refine (H _ (by first | exact zb.drew r wE | exact ((zb.refl r wE).alloc _).trans (zb.drew _ _)) (by first | exact av.out.keep rfl rfl | exact (av.out.alloc _).keep rfl rfl)).mono ?_;rintro e' w7 ⟨rfl,p7,bC,H7⟩;have aX:N<w7.heap.size:=(Array.getElem?_eq_some_iff.1 p7).1;have ar:=(fun ob=>(Below.heap_alloc w7 ob N aX).trans p7);obtain ⟨m0,m1,m2,m3,m4,mf⟩:=zt p7;have aF:=ze m0;have aM:=ze m1;have aO:=ze m2;have aI:=ze m3;have aH:=ze m4;have aR:=(fun ob j=>(zt (ar ob)).2.2.2.2.2 j))
        all_goals (obtain ⟨ap,A⟩:=H7.out)
        all_goals first
         | (have ag:zb r wE w7:=(zb.drew r wE).trans ap
            obtain ⟨W,hW⟩:∃W,W=(set5 w7 N (.int .i64 9) (.string (za Q.s)) (.int .i64 0) (.slice (some ⟨w7.heap.size,0,none⟩) 1 1) (.int .i64 (e.line:Int))).alloc (.cells #[.int .i64 Z,.string b2,.int .i64 c2,.slice U Y R,.int .i64 (e.line:Int)] 90):=⟨_,rfl⟩;obtain ⟨hJ,E⟩:=zJ.one (p:=fun f e ts=>zm f e ts) 9 Q.s hr aN aq I X.out K.out T.out ag p7 V.out A a1 HT.out aA A.few (.int .i64 9) rfl W hW
            have ay:Hid (zJ r g N F w res (fun f e ts=>zm f e ts) W∧Ze r W<Ze r wr):=show _∧_<_ from ⟨hJ,by rw [E];exact ai⟩
            change Exit.inBlock _ _ _ _ ((set5 w7 N (.int .i64 9) (.string (za Q.s)) (.int .i64 0) (.slice (some ⟨w7.heap.size,0,none⟩) 1 1) (.int .i64 (e.line:Int))).alloc (.cells #[.int .i64 Z,.string b2,.int .i64 c2,.slice U Y R,.int .i64 (e.line:Int)] 90))
            rw [←hW];clear hW hJ E A ag ap p7 ar m0 m1 m2 m3 m4 mf aF aM aO aI aH aR n0 n1 n2 n3 n4 nf bm bi bo be bj H H7 ah V HT T D X K ab ai aA aa av;go_wp2
            exact ay.out)
         | (have ag:zb r (wE.alloc (.cells #[.int .i64 Z,.string b2,.int .i64 c2,.slice U Y R,.int .i64 (e.line:Int)] 90)) w7:=(zb.drew r (wE.alloc (.cells #[.int .i64 Z,.string b2,.int .i64 c2,.slice U Y R,.int .i64 (e.line:Int)] 90))).trans ap
            obtain ⟨W,hW⟩:∃W,W=set5 w7 N (.int .i64 9) (.string (za Q.s)) (.int .i64 0) (.slice (some ⟨wE.heap.size,0,none⟩) 1 1) (.int .i64 (e.line:Int)):=⟨_,rfl⟩;obtain ⟨hJ,E⟩:=zJ.one' (p:=fun f e ts=>zm f e ts) 9 Q.s hr aN aq I X.out K.out T.out ag p7 V.out A a1 HT.out aA (.int .i64 9) rfl W hW
            have ay:Hid (zJ r g N F w res (fun f e ts=>zm f e ts) W∧Ze r W<Ze r wr):=show _∧_<_ from ⟨hJ,by rw [E];exact ai⟩
            change Exit.inBlock _ _ _ _ (set5 w7 N (.int .i64 9) (.string (za Q.s)) (.int .i64 0) (.slice (some ⟨wE.heap.size,0,none⟩) 1 1) (.int .i64 (e.line:Int)))
            rw [←hW];clear hW hJ E A ag ap p7 ar m0 m1 m2 m3 m4 mf aF aM aO aI aH aR n0 n1 n2 n3 n4 nf bm bi bo be bj H H7 ah V HT T D X K ab ai aA aa av;go_wp2
            exact ay.out)
       ·rw [if_neg h3] at J
        simp only [zo,Option.some.injEq] at J;subst J
        have H:∀W:World,zb r wE W→zc r g (o2+5) (y-1) (Q::M) W→Calls Tryz.prog 171 #[.pointer (some ⟨r,0,none⟩)] W fun e w'=>e=Zn Q.at0∧zb r w w':=fun W hK hR=>(cb W hK hR).mono fun e w' h=>by
         obtain ⟨G,z⟩:=h;rw [if_neg h3] at z;exact ⟨z,D.out.trans (hK.trans G)⟩
        clear cb;go_wp2_with fail
        go_region_dies
        all_goals
         go_wp2_with fail
         refine (H _ ?_ ?_).mono ?_
         ·first | exact zb.drew r wE | exact ((zb.refl r wE).alloc _).trans (zb.drew _ _)
         ·first | exact av.out.keep rfl rfl | exact (av.out.alloc _).keep rfl rfl
         ·rintro e w4 ⟨rfl,G⟩;exact ⟨rfl,G,rfl⟩
      ·have bs:zp t2 [46]=false:=by simpa using hd
       rw [bs] at cd;rw [if_neg hd] at J;simp only [Option.some.injEq] at J;subst J;go_wp2_with fail
       refine cd.mono ?_;clear cd;rintro e' wC ⟨rfl,bc,bd⟩;obtain ⟨pN,pz,bb⟩:=aD.out wC (aE.out.trans bc) (by simpa using bd)
       obtain ⟨n0,n1,n2,n3,n4,nf⟩:=zt pN;obtain ⟨q0,q1,bE,q3,q4,qf⟩:=zt pz;obtain ⟨z0,z1,z2,z3,z4⟩:=zq pz (.int .i64 Z) (.string b2) (.int .i64 c2) (.slice U Y R) (.int .i64 (e.line:Int));have bv:Hid (zk r g w (.ok (e,t2::L)) (.returned (.agg #[.int .i64 Z,.string b2,.int .i64 c2,.slice U Y R,.int .i64 (e.line:Int)])) (set5 wC w.heap.size (.int .i64 Z) (.string b2) (.int .i64 c2) (.slice U Y R) (.int .i64 (e.line:Int)))):=bb;clear aD am X K ab bb pN pz bc bd aE ae;go_wp2
       exact bodyPost_ret (v:=.agg #[.int .i64 Z,.string b2,.int .i64 c2,.slice U Y R,.int .i64 (e.line:Int)]) (by simp [results,Tryz.results147,go_sem,z0,z1,z2,z3,z4]) rfl bv.out
end Go.Proofs.YtmbofhpmockmbaaGreatDoor
