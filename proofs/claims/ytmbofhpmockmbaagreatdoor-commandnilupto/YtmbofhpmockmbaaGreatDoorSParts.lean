import Derived.Test.YtmbofhpmockmbaaGreatDoorMC28
import Derived.Test.YtmbofhpmockmbaaGreatDoorSSingle3
import Derived.Deep.RegionWith
import Derived.Deep.DeepCutAuto
import Derived.Deep.CutRange
namespace Go.Proofs.YtmbofhpmockmbaaGreatDoor
open Go.RowKit Go.Shelf
set_option maxHeartbeats 16000000
set_option maxRecDepth 100000
def YT (f:Nat) (e:Ex) (ts:List Tk):Option (PR Ex):=zo (Zf [93] ts) fun _ ts=>zm f e ts
theorem uK (r g o cap F:Nat) (ts:List Tk) (w:World) (res:PR Ex) (h:zc r g o cap ts w) (hE:zi ts) (hp:zo (zu F ts) (fun e ts=>zm F e ts)=some res)
  (hsg:∀w1 o1 O ts1 r1,zu F ts1=some r1→zi ts1→zc r g o1 O ts1 w1→zb r w w1→Calls Tryz.prog 168 #[.pointer (some ⟨r,0,none⟩)] w1 (zj r g w1 r1))
  (hex:∀w1 o1 O ts1 r1,zd F 1 ts1=some r1→zi ts1→zc r g o1 O ts1 w1→zb r w w1→Calls Tryz.prog 74 #[.pointer (some ⟨r,0,none⟩)] w1 (zj r g w1 r1)) :
  Calls Tryz.prog 147 #[.pointer (some ⟨r,0,none⟩)] w (zj r g w res):=by
 obtain ⟨t0,bl,rfl⟩:=hE.cons;have hr:=h.lt.1;have aP:=h.lt.2;cases hb:zu F (t0::bl) with
 | none=>rw [hb] at hp;cases hp
 | some r1 =>
  obtain ⟨w0,aJ⟩:∃w0,w0=w.alloc zC:=⟨_,rfl⟩;have c1:=hsg w0 o cap (t0::bl) r1 hb hE (by rw [aJ];exact h.alloc _) (by rw [aJ];exact (zb.refl r w).alloc _)
  rw [hb] at hp;simp only [zo] at hp;have aw:Hid (w0=w.alloc zC):=aJ;have al:Hid (∀w1 o1 O ts1 r1,zd F 1 ts1=some r1→zi ts1→zc r g o1 O ts1 w1→zb r w w1→Calls Tryz.prog 74 #[.pointer (some ⟨r,0,none⟩)] w1 (zj r g w1 r1)):=hex;clear aJ hex hsg
  go_enter Tryz.func147,Tryz.ntmps147
  go_wp2_with fail
  rw [←aw.out];refine c1.mono ?_;clear c1;rintro e w1 ⟨aA,z⟩;have a8:zb r w w1:=by have:=aw.out;subst this;exact ((zb.refl r w).alloc _).trans aA
  rcases r1 with a | ⟨x,us⟩
  ·obtain rfl:=z
   simp only [Option.some.injEq] at hp;subst hp;exact ⟨rfl,a8,rfl⟩
  ·obtain ⟨v,o1,O,rfl,hx,X⟩:=z
   obtain ⟨a,b,c,d0,d1,d2,l,rfl⟩:=hx.agg;have bh:=(zU F).2.2.2.2.1 _ _ _ hb hE;have hJ:=zH.start (p:=fun f e ts=>zm f e ts) (res:=res) aw.out hr aA hx X hp bh X.few
   have HJ:Hid (zH r g w1.heap.size F w res (fun f e ts=>zm f e ts) (w1.alloc (.cells #[.int .i64 a,.string b,.int .i64 c,.slice d0 d1 d2,.int .i64 l] 90))):=hJ
   have au:w.heap.size<w1.heap.size:=by have:=aA.size;have h2:=aw.out;subst h2;simp at this;omega
   obtain ⟨N,a4⟩:∃N,N=w1.heap.size:=⟨_,rfl⟩;rw [←a4] at HJ au;clear hJ hx X aA bh hp hb hE h a8 aw;go_wp2_with fail
   rw [←a4];generalize hW0:w1.alloc (.cells #[.int .i64 a,.string b,.int .i64 c,.slice d0 d1 d2,.int .i64 l] 90)=W0 at *;clear hW0 a4
   go_loopw [7] (fun _ wr=>zH r g N F w res (fun f e ts=>zm f e ts) wr) (fun _ wr=>Za r wr)
   case atStart=>exact HJ.out
   case round =>
    obtain ⟨e,bx,o2,y,f2,a2,S,Y,T,q2,U,l2,bz,J,aC,bE,am,aO,av,aW,aN⟩:=hrel;obtain ⟨t2,M,rfl⟩:=aC.cons;obtain rfl:l2=(e.line:Int):=aO.line_eq;clear HJ;have cs:=z6 r g o2 y t2 M [91] wr av (fun hi=>(aC.tail (zg hi)).ne)
    have ax:=av.left
    have aG:Hid (∀W,zb r wr W→zc r g o2 y (t2::M) W→W.heap[N]?=some (.cells #[.int .i64 a2,.string S,.int .i64 Y,.slice T q2 U,.int .i64 (e.line:Int)] 90 (0,0))∧W.heap[w.heap.size]?=some zC ∧
     zj r g w (.ok (e,t2::M)) (.returned (.agg #[.int .i64 a2,.string S,.int .i64 Y,.slice T q2 U,.int .i64 (e.line:Int)])) (set5 W w.heap.size (.int .i64 a2) (.string S) (.int .i64 Y) (.slice T q2 U) (.int .i64 (e.line:Int)))) :=
     fun W hK X=>zH.leave hr aP au aW am aN aO hK X
    have af:Hid (∀W,zb r wr W→W.heap[N]?=some (.cells #[.int .i64 a2,.string S,.int .i64 Y,.slice T q2 U,.int .i64 (e.line:Int)] 90 (0,0))∧W.heap[w.heap.size]?=some zC) :=
     fun W hK=>⟨(hK.block _ (Array.getElem?_eq_some_iff.1 am).1 (by omega)).trans am,(hK.block _ (Array.getElem?_eq_some_iff.1 aN).1 (by omega)).trans aN⟩
    have aa:Hid (zA (fun k=>w.heap.size<k∧k≠N) wr e (.agg #[.int .i64 a2,.string S,.int .i64 Y,.slice T q2 U,.int .i64 (e.line:Int)])):=aO
    have I:Hid (zb r w wr):=aW;have R:Hid (zi (t2::M)):=aC;cases f2 with
    | zero=>simp [zm] at J
    | succ f3 =>
     have aZ:f3≤F:=by omega
     simp only [zm,zE,List.tail_cons] at J;clear aO aW av aC am aN
     by_cases hi:zp t2 [91]=true
     ·rw [hi] at cs
      rw [if_pos hi] at J;have V:=R.out.tail (zg hi);go_wp2_with fail
      refine cs.mono ?_;clear cs;rintro e' wE ⟨rfl,ai,ar⟩;simp only [if_true] at ar;obtain ⟨pN,pz⟩:=af.out wE ai;have ab:Hid (zb r wr wE):=ai;have D:Hid (zb r w wE):=I.out.trans ai;have K:N<wE.heap.size:=(Array.getElem?_eq_some_iff.1 pN).1;cases hb3:zd f3 1 M with
      | none=>rw [hb3] at J;cases J
      | some r3 =>
       rw [hb3] at J;simp only [zo] at J
       have a0:zd F 1 M=some r3:=by
        have:=ZO (k:=F-f3) hb3
        rwa [show f3+(F-f3)=F by omega] at this
       have cb:∀W:World,W.heap=wE.heap→W.os=wE.os→W.tape=wE.tape→W.output=wE.output→Calls Tryz.prog 74 #[.pointer (some ⟨r,0,none⟩)] W fun e w'=>zb r wE w'∧zj r g W r3 e w':=fun W e1 e2 e3 e4 =>
        (al.out W _ _ M r3 a0 V (ar.keep (by rw [e1]) (by rw [e1])) ⟨e2.trans D.out.os,e3.trans D.out.tape,e4.trans D.out.output,by rw [e1];exact D.out.size,fun k hk hr=>by rw [e1];exact D.out.block k hk hr⟩).mono fun e w' h =>
         ⟨⟨h.1.os.trans e2,h.1.tape.trans e3,h.1.output.trans e4,by rw [←e1];exact h.1.size,fun k hk hr=>by rw [←e1];exact h.1.block k (by rw [e1];exact hk) hr⟩,h⟩
       obtain ⟨n0,n1,n2,n3,n4,nf⟩:=zs pN;have ag:Hid (wE.heap[N]?=some (.cells #[.int .i64 a2,.string S,.int .i64 Y,.slice T q2 U,.int .i64 (e.line:Int)] 90 (0,0))):=pN;have Z:Hid (wE.heap[w.heap.size]?=some zC):=pz;clear pN pz ar ai al af aG;rcases r3 with a3 | ⟨x3,aY⟩
       ·simp only [Option.some.injEq] at J
        subst J;have G:∀W:World,W.heap=wE.heap→W.os=wE.os→W.tape=wE.tape→W.output=wE.output→Calls Tryz.prog 74 #[.pointer (some ⟨r,0,none⟩)] W fun e w'=>e=Zj a3∧zb r w w':=fun W e1 e2 e3 e4=>(cb W e1 e2 e3 e4).mono fun e w' h=>⟨h.2.2,D.out.trans h.1⟩
        clear cb;go_wp2_with fail
        go_region_dies
        all_goals (go_wp2_with fail;refine (G _ (by rfl) (by rfl) (by rfl) (by rfl)).mono ?_;rintro e w4 ⟨rfl,H⟩;exact ⟨rfl,H,rfl⟩)
       ·have a6:=(zU F).1 _ _ _ _ a0 V
        have bv:=Zy a0;have ah:aY.length<Za r wr:=by rw [ax];simp only [List.length_cons];omega
        have HT:Hid (YT f3 (.mk 8 [] 0 [e,x3] e.line) aY=some res):=J
        have G:∀W:World,W.heap=wE.heap→W.os=wE.os→W.tape=wE.tape→W.output=wE.output→Calls Tryz.prog 74 #[.pointer (some ⟨r,0,none⟩)] W fun e' w'=>∃(a3:Int) (b3:ByteArray) (c3:Int) (u0:Option Addr) (u1 u2:Nat) (l3:Int),e'=.returned (.agg #[.int .i64 a3,.string b3,.int .i64 c3,.slice u0 u1 u2,.int .i64 l3]) ∧
          w'.heap[N]?=some (.cells #[.int .i64 a2,.string S,.int .i64 Y,.slice T q2 U,.int .i64 (e.line:Int)] 90 (0,0))∧Hid (zb r wE w'∧zN wE.heap.size w' x3 (.agg #[.int .i64 a3,.string b3,.int .i64 c3,.slice u0 u1 u2,.int .i64 l3])∧∃o cap,zc r g o cap aY w'):=fun W e1 e2 e3 e4=>(cb W e1 e2 e3 e4).mono fun e' w' h=>by
         obtain ⟨H,-,v,o4,bf,rfl,hx,X⟩:=h;obtain ⟨a3,b3,c3,u0,u1,u2,l3,rfl⟩:=hx.agg;exact ⟨a3,b3,c3,u0,u1,u2,l3,rfl,(H.block N K (by omega)).trans ag.out,H,(by rw [←e1];exact hx:zN wE.heap.size w' x3 _),o4,bf,X⟩
        clear cb J;go_wp2_with fail
        go_cut [] from 6 to 28 (fun wx=>zH r g N F w res YT wx∧Za r wx<Za r wr)
        case first =>
         go_region_with (go_at_call 74;refine (G _ (by rfl) (by rfl) (by rfl) (by rfl)).mono ?_;rintro e' w7 ⟨a3,b3,c3,u0,u1,u2,l3,rfl,p7,H7⟩;have a1:N<w7.heap.size:=(Array.getElem?_eq_some_iff.1 p7).1;have ap:=(fun ob=>(Below.heap_alloc w7 ob N a1).trans p7);obtain ⟨m0,m1,m2,m3,m4,mf⟩:=zs p7;have aD:=ze m0;have az:=ze m1;have aQ:=ze m2;have aM:=ze m3;have aI:=ze m4;have aB:=(fun ob j=>(zs (ap ob)).2.2.2.2.2 j))
         all_goals
          obtain ⟨ae,a7,o7,bw,A⟩:=H7.out;obtain ⟨W,hW⟩:∃W,W=(set5 w7 N (.int .i64 8) (.string ⟨#[]⟩) (.int .i64 0) (.slice (some ⟨w7.heap.size,0,none⟩) 2 2) (.int .i64 (e.line:Int))).alloc (.cells #[.int .i64 a2,.string S,.int .i64 Y,.slice T q2 U,.int .i64 (e.line:Int),.int .i64 a3,.string b3,.int .i64 c3,.slice u0 u1 u2,.int .i64 l3] 90):=⟨_,rfl⟩;obtain ⟨hJ,E⟩:=zH.two (p:=YT) 8 [] hr aP au K aa.out I.out ab.out ae p7 Z.out a7 A aZ HT.out a6 A.few (.int .i64 8) rfl W hW;have ay:Hid (zH r g N F w res YT W∧Za r W<Za r wr):=show _∧_<_ from ⟨hJ,by rw [E];exact ah⟩
          change Exit.then _ _ _ _ ((set5 w7 N (.int .i64 8) (.string ⟨#[]⟩) (.int .i64 0) (.slice (some ⟨w7.heap.size,0,none⟩) 2 2) (.int .i64 (e.line:Int))).alloc (.cells #[.int .i64 a2,.string S,.int .i64 Y,.slice T q2 U,.int .i64 (e.line:Int),.int .i64 a3,.string b3,.int .i64 c3,.slice u0 u1 u2,.int .i64 l3] 90))
          rw [←hW];clear hW hJ E A a7 ae p7 ap m0 m1 m2 m3 m4 mf aD az aQ aM aI aB n0 n1 n2 n3 n4 nf G H7 ag Z HT ab D aa I R bv ah a6 V;go_wp2_with fail
          go_meet
          exact ay.out
        case rest =>
         obtain ⟨⟨e5,bB,o5,aS,f5,a5,b5,c5,p5,q5,s5,l5,br,ad,aX,bC,aj,aU,an,aF,aV⟩,bA⟩:=hcut;obtain ⟨t5,bo,rfl⟩:=aX.cons;have cn:=y6 r g o5 aS t5 bo [93] wc an (fun hi=>(aX.tail (zg hi)).ne)
         have aH:=an.left
         unfold YT Zf at ad
         simp only [zE,List.tail_cons] at ad
         by_cases hm:zp t5 [93]=true
         ·simp only [if_pos hm] at cn
          rw [if_pos hm] at ad
          have bi:Hid (∀W,zb r wc W→zc r g (o5+5) (aS-1) bo W→zH r g N F w res (fun f e ts=>zm f e ts) W∧Za r W<Za r wr):=fun W hK hR =>
           ⟨zH.moved (p:=fun f e ts=>zm f e ts) hr au aj aU aF aV hK hR br ad (aX.tail (zg hm)),by rw [hR.left];simp only [List.length_cons] at aH;omega⟩
          clear ad aj aU an aF aV G HT aa I R ab D ag Z n0 n1 n2 n3 n4 nf;go_wp2_with fail
          refine cn.mono ?_;clear cn;rintro e9 w9 ⟨aE,rfl,bk⟩;have bp:Hid (zH r g N F w res (fun f e ts=>zm f e ts) w9∧Za r w9<Za r wr):=bi.out w9 aE bk
          clear bi aE bk;go_wp2
          exact bp.out
         ·simp only [if_neg hm] at cn
          rw [if_neg hm] at ad;simp only [zo,Option.some.injEq] at ad;subst ad;have bu:Hid (zb r w wc):=aF;clear aj aU an aF aV G HT aa I R ab D ag Z n0 n1 n2 n3 n4 nf;go_wp2_with fail
          refine cn.mono ?_;clear cn;rintro e9 w9 ⟨aE,rfl⟩;exact ⟨rfl,bu.out.trans aE,rfl⟩
     ·have bq:zp t2 [91]=false:=by simpa using hi
      rw [bq] at cs;rw [if_neg hi] at J;go_wp2_with fail
      refine cs.mono ?_;clear cs;rintro e' wB ⟨rfl,bc,a9⟩;have aT:zc r g o2 y (t2::M) wB:=by simpa using a9
      have cd:=z6 r g o2 y t2 M [46] wB aT (fun hi=>(R.out.tail (zg hi)).ne)
      have aK:Hid (zb r wr wB):=bc;clear bc a9 aT
      by_cases hd:zp t2 [46]=true
      ·rw [hd] at cd
       rw [if_pos hd] at J;have V:=R.out.tail (zg hd);obtain ⟨Q,L,rfl⟩:=V.cons;go_wp2_with fail
       refine cd.mono ?_;clear cd;rintro e' wE ⟨rfl,ai,ar⟩;have ak:zb r wr wE:=aK.out.trans ai;have aR:zc r g (o2+5) (y-1) (Q::L) wE:=by simpa using ar
       obtain ⟨pN,pz⟩:=af.out wE ak;have ab:Hid (zb r wr wE):=ak;have D:Hid (zb r w wE):=I.out.trans ak;have K:N<wE.heap.size:=(Array.getElem?_eq_some_iff.1 pN).1;have aq:Hid (zc r g (o2+5) (y-1) (Q::L) wE):=aR;obtain ⟨n0,n1,n2,n3,n4,nf⟩:=zs pN;have bd:=ze n0;have bj:=ze n1;have bn:=ze n2;have ba:=ze n3;have be:=ze n4;have ag:Hid (wE.heap[N]?=some (.cells #[.int .i64 a2,.string S,.int .i64 Y,.slice T q2 U,.int .i64 (e.line:Int)] 90 (0,0))):=pN;have Z:Hid (wE.heap[w.heap.size]?=some zC):=pz
       have cb:∀W:World,zb r wE W→zc r g (o2+5) (y-1) (Q::L) W→Calls Tryz.prog 171 #[.pointer (some ⟨r,0,none⟩)] W fun e w'=>zb r W w'∧if Q.k=1 then e=.returned (.string (za Q.s))∧zc r g (o2+5+5) (y-1-1) L w' else e=Zj Q.at0:=fun W hK hR =>
        xW r g _ _ Q L W hR (fun hk=>(V.tail (by omega)).ne)
       simp only [yY,zE,List.tail_cons] at J;clear pN pz ar aR ai ak aK af aG al
       by_cases h3:Q.k=1
       ·rw [if_pos h3] at J
        have aL:=V.tail (by omega:Q.k≠0)
        have ah:L.length<Za r wr:=by rw [ax];simp only [List.length_cons];omega
        have HT:Hid (zm f3 (.mk 9 Q.s 0 [e] e.line) L=some res):=J
        have G:∀W:World,zb r wE W→zc r g (o2+5) (y-1) (Q::L) W→Calls Tryz.prog 171 #[.pointer (some ⟨r,0,none⟩)] W fun e' w'=>e'=.returned (.string (za Q.s))∧w'.heap[N]?=some (.cells #[.int .i64 a2,.string S,.int .i64 Y,.slice T q2 U,.int .i64 (e.line:Int)] 90 (0,0))∧W.heap.size≤w'.heap.size∧Hid (zb r W w'∧zc r g (o2+5+5) (y-1-1) L w'):=fun W hK hR=>(cb W hK hR).mono fun e' w' h=>by
         obtain ⟨H,z⟩:=h;rw [if_pos h3] at z;obtain ⟨rfl,X⟩:=z;exact ⟨rfl,(H.block N (Nat.lt_of_lt_of_le K hK.size) (by omega)).trans ((hK.block N K (by omega)).trans ag.out),H.size,H,X⟩
        clear cb J;go_wp2_with fail
        go_region_with (go_at_call 171;refine (G _ (by first | exact zb.drew r wE | exact ((zb.refl r wE).alloc _).trans (zb.drew _ _)) (by first | exact aq.out.keep rfl rfl | exact (aq.out.alloc _).keep rfl rfl)).mono ?_;rintro e' w7 ⟨rfl,p7,bD,H7⟩;have a1:N<w7.heap.size:=(Array.getElem?_eq_some_iff.1 p7).1;have ap:=(fun ob=>(Below.heap_alloc w7 ob N a1).trans p7);obtain ⟨m0,m1,m2,m3,m4,mf⟩:=zs p7;have aD:=ze m0;have az:=ze m1;have aQ:=ze m2;have aM:=ze m3;have aI:=ze m4;have aB:=(fun ob j=>(zs (ap ob)).2.2.2.2.2 j))
        all_goals (obtain ⟨ao,A⟩:=H7.out)
        all_goals first
         | (have ae:zb r wE w7:=(zb.drew r wE).trans ao
            obtain ⟨W,hW⟩:∃W,W=(set5 w7 N (.int .i64 9) (.string (za Q.s)) (.int .i64 0) (.slice (some ⟨w7.heap.size,0,none⟩) 1 1) (.int .i64 (e.line:Int))).alloc (.cells #[.int .i64 a2,.string S,.int .i64 Y,.slice T q2 U,.int .i64 (e.line:Int)] 90):=⟨_,rfl⟩;obtain ⟨hJ,E⟩:=zH.one (p:=fun f e ts=>zm f e ts) 9 Q.s hr aP au K aa.out I.out ab.out ae p7 Z.out A aZ HT.out aL A.few (.int .i64 9) rfl W hW
            have ay:Hid (zH r g N F w res (fun f e ts=>zm f e ts) W∧Za r W<Za r wr):=show _∧_<_ from ⟨hJ,by rw [E];exact ah⟩
            change Exit.inBlock _ _ _ _ ((set5 w7 N (.int .i64 9) (.string (za Q.s)) (.int .i64 0) (.slice (some ⟨w7.heap.size,0,none⟩) 1 1) (.int .i64 (e.line:Int))).alloc (.cells #[.int .i64 a2,.string S,.int .i64 Y,.slice T q2 U,.int .i64 (e.line:Int)] 90))
            rw [←hW];clear hW hJ E A ae ao p7 ap m0 m1 m2 m3 m4 mf aD az aQ aM aI aB n0 n1 n2 n3 n4 nf bd bj bn ba be G H7 ag Z HT ab D aa I R ah aL V aq;go_wp2
            exact ay.out)
         | (have ae:zb r (wE.alloc (.cells #[.int .i64 a2,.string S,.int .i64 Y,.slice T q2 U,.int .i64 (e.line:Int)] 90)) w7:=(zb.drew r (wE.alloc (.cells #[.int .i64 a2,.string S,.int .i64 Y,.slice T q2 U,.int .i64 (e.line:Int)] 90))).trans ao
            obtain ⟨W,hW⟩:∃W,W=set5 w7 N (.int .i64 9) (.string (za Q.s)) (.int .i64 0) (.slice (some ⟨wE.heap.size,0,none⟩) 1 1) (.int .i64 (e.line:Int)):=⟨_,rfl⟩;obtain ⟨hJ,E⟩:=zH.one' (p:=fun f e ts=>zm f e ts) 9 Q.s hr aP au K aa.out I.out ab.out ae p7 Z.out A aZ HT.out aL (.int .i64 9) rfl W hW
            have ay:Hid (zH r g N F w res (fun f e ts=>zm f e ts) W∧Za r W<Za r wr):=show _∧_<_ from ⟨hJ,by rw [E];exact ah⟩
            change Exit.inBlock _ _ _ _ (set5 w7 N (.int .i64 9) (.string (za Q.s)) (.int .i64 0) (.slice (some ⟨wE.heap.size,0,none⟩) 1 1) (.int .i64 (e.line:Int)))
            rw [←hW];clear hW hJ E A ae ao p7 ap m0 m1 m2 m3 m4 mf aD az aQ aM aI aB n0 n1 n2 n3 n4 nf bd bj bn ba be G H7 ag Z HT ab D aa I R ah aL V aq;go_wp2
            exact ay.out)
       ·rw [if_neg h3] at J
        simp only [zo,Option.some.injEq] at J;subst J
        have G:∀W:World,zb r wE W→zc r g (o2+5) (y-1) (Q::L) W→Calls Tryz.prog 171 #[.pointer (some ⟨r,0,none⟩)] W fun e w'=>e=Zj Q.at0∧zb r w w':=fun W hK hR=>(cb W hK hR).mono fun e w' h=>by
         obtain ⟨H,z⟩:=h;rw [if_neg h3] at z;exact ⟨z,D.out.trans (hK.trans H)⟩
        clear cb;go_wp2_with fail
        go_region_dies
        all_goals
         go_wp2_with fail
         refine (G _ ?_ ?_).mono ?_
         ·first | exact zb.drew r wE | exact ((zb.refl r wE).alloc _).trans (zb.drew _ _)
         ·first | exact aq.out.keep rfl rfl | exact (aq.out.alloc _).keep rfl rfl
         ·rintro e w4 ⟨rfl,H⟩;exact ⟨rfl,H,rfl⟩
      ·have bs:zp t2 [46]=false:=by simpa using hd
       rw [bs] at cd;rw [if_neg hd] at J;simp only [Option.some.injEq] at J;subst J;go_wp2_with fail
       refine cd.mono ?_;clear cd;rintro e' wC ⟨rfl,bg,bb⟩;obtain ⟨pN,pz,bm⟩:=aG.out wC (aK.out.trans bg) (by simpa using bb)
       obtain ⟨n0,n1,n2,n3,n4,nf⟩:=zs pN;obtain ⟨q0,q1,bF,q3,q4,qf⟩:=zs pz;obtain ⟨z0,z1,z2,z3,z4⟩:=zq pz (.int .i64 a2) (.string S) (.int .i64 Y) (.slice T q2 U) (.int .i64 (e.line:Int));have bt:Hid (zj r g w (.ok (e,t2::M)) (.returned (.agg #[.int .i64 a2,.string S,.int .i64 Y,.slice T q2 U,.int .i64 (e.line:Int)])) (set5 wC w.heap.size (.int .i64 a2) (.string S) (.int .i64 Y) (.slice T q2 U) (.int .i64 (e.line:Int)))):=bm;clear aG al aa I R bm pN pz bg bb aK af;go_wp2
       exact bodyPost_ret (v:=.agg #[.int .i64 a2,.string S,.int .i64 Y,.slice T q2 U,.int .i64 (e.line:Int)]) (by simp [results,Tryz.results147,go_sem,z0,z1,z2,z3,z4]) rfl bt.out
end Go.Proofs.YtmbofhpmockmbaaGreatDoor
