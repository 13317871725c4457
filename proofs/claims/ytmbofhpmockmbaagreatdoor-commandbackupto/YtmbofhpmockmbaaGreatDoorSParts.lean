import Derived.Test.YtmbofhpmockmbaaGreatDoorMC27
import Derived.Test.YtmbofhpmockmbaaGreatDoorSSingle3
import Derived.Deep.RegionWith
import Derived.Deep.DeepCutAuto
import Derived.Deep.CutRange
namespace Go.Proofs.YtmbofhpmockmbaaGreatDoor
open Go.RowKit Go.Shelf
set_option maxHeartbeats 16000000
set_option maxRecDepth 100000
def Yu (f:Nat) (e:Ex) (ts:List Tk):Option (PR Ex):=zm (Zb [93] ts) fun _ ts=>zk f e ts
theorem Vy (r g o cap F:Nat) (ts:List Tk) (w:World) (res:PR Ex) (h:zc r g o cap ts w) (hE:zh ts) (hp:zm (zt F ts) (fun e ts=>zk F e ts)=some res)
  (hsg:∀w1 o1 O ts1 r1,zt F ts1=some r1→zh ts1→zc r g o1 O ts1 w1→zb r w w1→Calls Tryz.prog 168 #[.pointer (some ⟨r,0,none⟩)] w1 (zi r g w1 r1))
  (hex:∀w1 o1 O ts1 r1,zd F 1 ts1=some r1→zh ts1→zc r g o1 O ts1 w1→zb r w w1→Calls Tryz.prog 74 #[.pointer (some ⟨r,0,none⟩)] w1 (zi r g w1 r1)) :
  Calls Tryz.prog 147 #[.pointer (some ⟨r,0,none⟩)] w (zi r g w res):=by
 obtain ⟨t0,bl,rfl⟩:=hE.cons;have hr:=h.lt.1;have aJ:=h.lt.2;cases hb:zt F (t0::bl) with
 | none=>rw [hb] at hp;cases hp
 | some r1 =>
  obtain ⟨w0,aF⟩:∃w0,w0=w.alloc zA:=⟨_,rfl⟩;have c1:=hsg w0 o cap (t0::bl) r1 hb hE (by rw [aF];exact h.alloc _) (by rw [aF];exact (zb.refl r w).alloc _)
  rw [hb] at hp;simp only [zm] at hp;have ay:Hid (w0=w.alloc zA):=aF;have am:Hid (∀w1 o1 O ts1 r1,zd F 1 ts1=some r1→zh ts1→zc r g o1 O ts1 w1→zb r w w1→Calls Tryz.prog 74 #[.pointer (some ⟨r,0,none⟩)] w1 (zi r g w1 r1)):=hex;clear aF hex hsg
  go_enter Tryz.func147,Tryz.ntmps147
  go_wp2_with fail
  rw [←ay.out];refine c1.mono ?_;clear c1;rintro e w1 ⟨aE,z⟩;have bp:zb r w w1:=by have:=ay.out;subst this;exact ((zb.refl r w).alloc _).trans aE
  rcases r1 with a | ⟨x,us⟩
  ·obtain rfl:=z
   simp only [Option.some.injEq] at hp;subst hp;exact ⟨rfl,bp,rfl⟩
  ·obtain ⟨v,o1,O,rfl,hx,U⟩:=z
   obtain ⟨a,b,c,d0,d1,d2,l,rfl⟩:=hx.agg;have ba:=(zR F).2.2.2.2.1 _ _ _ hb hE;have hJ:=zG.start (p:=fun f e ts=>zk f e ts) (res:=res) ay.out hr aE hx U hp ba U.few
   have HJ:Hid (zG r g w1.heap.size F w res (fun f e ts=>zk f e ts) (w1.alloc (.cells #[.int .i64 a,.string b,.int .i64 c,.slice d0 d1 d2,.int .i64 l] 90))):=hJ
   have ar:w.heap.size<w1.heap.size:=by have:=aE.size;have h2:=ay.out;subst h2;simp at this;omega
   obtain ⟨N,a6⟩:∃N,N=w1.heap.size:=⟨_,rfl⟩;rw [←a6] at HJ ar;clear hJ hx U aE ba hp hb hE h bp ay;go_wp2_with fail
   rw [←a6];generalize hW0:w1.alloc (.cells #[.int .i64 a,.string b,.int .i64 c,.slice d0 d1 d2,.int .i64 l] 90)=W0 at *;clear hW0 a6
   go_loopw [7] (fun _ wr=>zG r g N F w res (fun f e ts=>zk f e ts) wr) (fun _ wr=>z6 r wr)
   case atStart=>exact HJ.out
   case round =>
    obtain ⟨e,bF,o2,y,f2,S,V,Z,p2,R,X,l2,bC,J,aK,bA,al,aN,aw,aX,aP⟩:=hrel;obtain ⟨t2,L,rfl⟩:=aK.cons;obtain rfl:l2=(e.line:Int):=aN.line_eq;clear HJ;have cs:=zX r g o2 y t2 L [91] wr aw (fun hi=>(aK.tail (zf hi)).ne)
    have az:=aw.left
    have aQ:Hid (∀W,zb r wr W→zc r g o2 y (t2::L) W→W.heap[N]?=some (.cells #[.int .i64 S,.string V,.int .i64 Z,.slice p2 R X,.int .i64 (e.line:Int)] 90 (0,0))∧W.heap[w.heap.size]?=some zA ∧
     zi r g w (.ok (e,t2::L)) (.returned (.agg #[.int .i64 S,.string V,.int .i64 Z,.slice p2 R X,.int .i64 (e.line:Int)])) (set5 W w.heap.size (.int .i64 S) (.string V) (.int .i64 Z) (.slice p2 R X) (.int .i64 (e.line:Int)))) :=
     fun W hK U=>zG.leave hr aJ ar aX al aP aN hK U
    have ah:Hid (∀W,zb r wr W→W.heap[N]?=some (.cells #[.int .i64 S,.string V,.int .i64 Z,.slice p2 R X,.int .i64 (e.line:Int)] 90 (0,0))∧W.heap[w.heap.size]?=some zA) :=
     fun W hK=>⟨(hK.block _ (Array.getElem?_eq_some_iff.1 al).1 (by omega)).trans al,(hK.block _ (Array.getElem?_eq_some_iff.1 aP).1 (by omega)).trans aP⟩
    have ab:Hid (zy (fun k=>w.heap.size<k∧k≠N) wr e (.agg #[.int .i64 S,.string V,.int .i64 Z,.slice p2 R X,.int .i64 (e.line:Int)])):=aN
    have I:Hid (zb r w wr):=aX;have Y:Hid (zh (t2::L)):=aK;cases f2 with
    | zero=>simp [zk] at J
    | succ f3 =>
     have a0:f3≤F:=by omega
     simp only [zk,zD,List.tail_cons] at J;clear aN aX aw aK al aP
     by_cases hi:zn t2 [91]=true
     ·rw [hi] at cs
      rw [if_pos hi] at J;have T:=Y.out.tail (zf hi);go_wp2_with fail
      refine cs.mono ?_;clear cs;rintro e' wE ⟨rfl,ak,aq⟩;simp only [if_true] at aq;obtain ⟨pN,pz⟩:=ah.out wE ak;have ad:Hid (zb r wr wE):=ak;have D:Hid (zb r w wE):=I.out.trans ak;have K:N<wE.heap.size:=(Array.getElem?_eq_some_iff.1 pN).1;cases hb3:zd f3 1 L with
      | none=>rw [hb3] at J;cases J
      | some r3 =>
       rw [hb3] at J;simp only [zm] at J
       have aW:zd F 1 L=some r3:=by
        have:=ZC (k:=F-f3) hb3
        rwa [show f3+(F-f3)=F by omega] at this
       have cb:∀W:World,W.heap=wE.heap→W.os=wE.os→W.tape=wE.tape→W.output=wE.output→Calls Tryz.prog 74 #[.pointer (some ⟨r,0,none⟩)] W fun e w'=>zb r wE w'∧zi r g W r3 e w':=fun W e1 e2 e3 e4 =>
        (am.out W _ _ L r3 aW T (aq.keep (by rw [e1]) (by rw [e1])) ⟨e2.trans D.out.os,e3.trans D.out.tape,e4.trans D.out.output,by rw [e1];exact D.out.size,fun k hk hr=>by rw [e1];exact D.out.block k hk hr⟩).mono fun e w' h =>
         ⟨⟨h.1.os.trans e2,h.1.tape.trans e3,h.1.output.trans e4,by rw [←e1];exact h.1.size,fun k hk hr=>by rw [←e1];exact h.1.block k (by rw [e1];exact hk) hr⟩,h⟩
       obtain ⟨n0,n1,n2,n3,n4,nf⟩:=zr pN;have ae:Hid (wE.heap[N]?=some (.cells #[.int .i64 S,.string V,.int .i64 Z,.slice p2 R X,.int .i64 (e.line:Int)] 90 (0,0))):=pN;have aa:Hid (wE.heap[w.heap.size]?=some zA):=pz;clear pN pz aq ak am ah aQ;rcases r3 with a3 | ⟨x3,a4⟩
       ·simp only [Option.some.injEq] at J
        subst J;have G:∀W:World,W.heap=wE.heap→W.os=wE.os→W.tape=wE.tape→W.output=wE.output→Calls Tryz.prog 74 #[.pointer (some ⟨r,0,none⟩)] W fun e w'=>e=Ze a3∧zb r w w':=fun W e1 e2 e3 e4=>(cb W e1 e2 e3 e4).mono fun e w' h=>⟨h.2.2,D.out.trans h.1⟩
        clear cb;go_wp2_with fail
        go_region_dies
        all_goals (go_wp2_with fail;refine (G _ (by rfl) (by rfl) (by rfl) (by rfl)).mono ?_;rintro e w4 ⟨rfl,H⟩;exact ⟨rfl,H,rfl⟩)
       ·have bd:=(zR F).1 _ _ _ _ aW T
        have bv:=Zp aW;have aj:a4.length<z6 r wr:=by rw [az];simp only [List.length_cons];omega
        have HT:Hid (Yu f3 (.mk 8 [] 0 [e,x3] e.line) a4=some res):=J
        have G:∀W:World,W.heap=wE.heap→W.os=wE.os→W.tape=wE.tape→W.output=wE.output→Calls Tryz.prog 74 #[.pointer (some ⟨r,0,none⟩)] W fun e' w'=>∃(a3:Int) (b3:ByteArray) (c3:Int) (u0:Option Addr) (u1 u2:Nat) (l3:Int),e'=.returned (.agg #[.int .i64 a3,.string b3,.int .i64 c3,.slice u0 u1 u2,.int .i64 l3]) ∧
          w'.heap[N]?=some (.cells #[.int .i64 S,.string V,.int .i64 Z,.slice p2 R X,.int .i64 (e.line:Int)] 90 (0,0))∧Hid (zb r wE w'∧zM wE.heap.size w' x3 (.agg #[.int .i64 a3,.string b3,.int .i64 c3,.slice u0 u1 u2,.int .i64 l3])∧∃o cap,zc r g o cap a4 w'):=fun W e1 e2 e3 e4=>(cb W e1 e2 e3 e4).mono fun e' w' h=>by
         obtain ⟨H,-,v,o4,a9,rfl,hx,U⟩:=h;obtain ⟨a3,b3,c3,u0,u1,u2,l3,rfl⟩:=hx.agg;exact ⟨a3,b3,c3,u0,u1,u2,l3,rfl,(H.block N K (by omega)).trans ae.out,H,(by rw [←e1];exact hx:zM wE.heap.size w' x3 _),o4,a9,U⟩
        clear cb J;go_wp2_with fail
        go_cut [] from 6 to 28 (fun wx=>zG r g N F w res Yu wx∧z6 r wx<z6 r wr)
        case first =>
         go_region_with (go_at_call 74;refine (G _ (by rfl) (by rfl) (by rfl) (by rfl)).mono ?_;rintro e' w7 ⟨a3,b3,c3,u0,u1,u2,l3,rfl,p7,H7⟩;have aY:N<w7.heap.size:=(Array.getElem?_eq_some_iff.1 p7).1;have av:=(fun ob=>(Below.heap_alloc w7 ob N aY).trans p7);obtain ⟨m0,m1,m2,m3,m4,mf⟩:=zr p7;have aM:=ze m0;have aH:=ze m1;have aB:=ze m2;have aD:=ze m3;have aC:=ze m4;have aI:=(fun ob j=>(zr (av ob)).2.2.2.2.2 j))
         all_goals
          obtain ⟨ag,bb,o7,bx,A⟩:=H7.out;obtain ⟨W,hW⟩:∃W,W=(set5 w7 N (.int .i64 8) (.string ⟨#[]⟩) (.int .i64 0) (.slice (some ⟨w7.heap.size,0,none⟩) 2 2) (.int .i64 (e.line:Int))).alloc (.cells #[.int .i64 S,.string V,.int .i64 Z,.slice p2 R X,.int .i64 (e.line:Int),.int .i64 a3,.string b3,.int .i64 c3,.slice u0 u1 u2,.int .i64 l3] 90):=⟨_,rfl⟩;obtain ⟨hJ,E⟩:=zG.two (p:=Yu) 8 [] hr aJ ar K ab.out I.out ad.out ag p7 aa.out bb A a0 HT.out bd A.few (.int .i64 8) rfl W hW;have ax:Hid (zG r g N F w res Yu W∧z6 r W<z6 r wr):=show _∧_<_ from ⟨hJ,by rw [E];exact aj⟩
          change Exit.then _ _ _ _ ((set5 w7 N (.int .i64 8) (.string ⟨#[]⟩) (.int .i64 0) (.slice (some ⟨w7.heap.size,0,none⟩) 2 2) (.int .i64 (e.line:Int))).alloc (.cells #[.int .i64 S,.string V,.int .i64 Z,.slice p2 R X,.int .i64 (e.line:Int),.int .i64 a3,.string b3,.int .i64 c3,.slice u0 u1 u2,.int .i64 l3] 90))
          rw [←hW];clear hW hJ E A bb ag p7 av m0 m1 m2 m3 m4 mf aM aH aB aD aC aI n0 n1 n2 n3 n4 nf G H7 ae aa HT ad D ab I Y bv aj bd T;go_wp2_with fail
          go_meet
          exact ax.out
        case rest =>
         obtain ⟨⟨e5,bz,o5,aT,f5,a5,b5,c5,p5,q5,s5,l5,bw,af,aV,bB,ai,aZ,ao,aO,a1⟩,bE⟩:=hcut;obtain ⟨t5,bk,rfl⟩:=aV.cons;have cn:=yP r g o5 aT t5 bk [93] wc ao (fun hi=>(aV.tail (zf hi)).ne)
         have aL:=ao.left
         unfold Yu Zb at af
         simp only [zD,List.tail_cons] at af
         by_cases hm:zn t5 [93]=true
         ·simp only [if_pos hm] at cn
          rw [if_pos hm] at af
          have bo:Hid (∀W,zb r wc W→zc r g (o5+5) (aT-1) bk W→zG r g N F w res (fun f e ts=>zk f e ts) W∧z6 r W<z6 r wr):=fun W hK hR =>
           ⟨zG.moved (p:=fun f e ts=>zk f e ts) hr ar ai aZ aO a1 hK hR bw af (aV.tail (zf hm)),by rw [hR.left];simp only [List.length_cons] at aL;omega⟩
          clear af ai aZ ao aO a1 G HT ab I Y ad D ae aa n0 n1 n2 n3 n4 nf;go_wp2_with fail
          refine cn.mono ?_;clear cn;rintro e9 w9 ⟨aA,rfl,bc⟩;have bt:Hid (zG r g N F w res (fun f e ts=>zk f e ts) w9∧z6 r w9<z6 r wr):=bo.out w9 aA bc
          clear bo aA bc;go_wp2
          exact bt.out
         ·simp only [if_neg hm] at cn
          rw [if_neg hm] at af;simp only [zm,Option.some.injEq] at af;subst af;have bu:Hid (zb r w wc):=aO;clear ai aZ ao aO a1 G HT ab I Y ad D ae aa n0 n1 n2 n3 n4 nf;go_wp2_with fail
          refine cn.mono ?_;clear cn;rintro e9 w9 ⟨aA,rfl⟩;exact ⟨rfl,bu.out.trans aA,rfl⟩
     ·have bq:zn t2 [91]=false:=by simpa using hi
      rw [bq] at cs;rw [if_neg hi] at J;go_wp2_with fail
      refine cs.mono ?_;clear cs;rintro e' wB ⟨rfl,bf,bh⟩;have aU:zc r g o2 y (t2::L) wB:=by simpa using bh
      have cd:=zX r g o2 y t2 L [46] wB aU (fun hi=>(Y.out.tail (zf hi)).ne)
      have aR:Hid (zb r wr wB):=bf;clear bf bh aU
      by_cases hd:zn t2 [46]=true
      ·rw [hd] at cd
       rw [if_pos hd] at J;have T:=Y.out.tail (zf hd);obtain ⟨Q,M,rfl⟩:=T.cons;go_wp2_with fail
       refine cd.mono ?_;clear cd;rintro e' wE ⟨rfl,ak,aq⟩;have an:zb r wr wE:=aR.out.trans ak;have aS:zc r g (o2+5) (y-1) (Q::M) wE:=by simpa using aq
       obtain ⟨pN,pz⟩:=ah.out wE an;have ad:Hid (zb r wr wE):=an;have D:Hid (zb r w wE):=I.out.trans an;have K:N<wE.heap.size:=(Array.getElem?_eq_some_iff.1 pN).1;have au:Hid (zc r g (o2+5) (y-1) (Q::M) wE):=aS;obtain ⟨n0,n1,n2,n3,n4,nf⟩:=zr pN;have be:=ze n0;have bm:=ze n1;have bj:=ze n2;have bn:=ze n3;have bi:=ze n4;have ae:Hid (wE.heap[N]?=some (.cells #[.int .i64 S,.string V,.int .i64 Z,.slice p2 R X,.int .i64 (e.line:Int)] 90 (0,0))):=pN;have aa:Hid (wE.heap[w.heap.size]?=some zA):=pz
       have cb:∀W:World,zb r wE W→zc r g (o2+5) (y-1) (Q::M) W→Calls Tryz.prog 171 #[.pointer (some ⟨r,0,none⟩)] W fun e w'=>zb r W w'∧if Q.k=1 then e=.returned (.string (za Q.s))∧zc r g (o2+5+5) (y-1-1) M w' else e=Ze Q.at0:=fun W hK hR =>
        xj r g _ _ Q M W hR (fun hk=>(T.tail (by omega)).ne)
       simp only [yF,zD,List.tail_cons] at J;clear pN pz aq aS ak an aR ah aQ am
       by_cases h3:Q.k=1
       ·rw [if_pos h3] at J
        have aG:=T.tail (by omega:Q.k≠0)
        have aj:M.length<z6 r wr:=by rw [az];simp only [List.length_cons];omega
        have HT:Hid (zk f3 (.mk 9 Q.s 0 [e] e.line) M=some res):=J
        have G:∀W:World,zb r wE W→zc r g (o2+5) (y-1) (Q::M) W→Calls Tryz.prog 171 #[.pointer (some ⟨r,0,none⟩)] W fun e' w'=>e'=.returned (.string (za Q.s))∧w'.heap[N]?=some (.cells #[.int .i64 S,.string V,.int .i64 Z,.slice p2 R X,.int .i64 (e.line:Int)] 90 (0,0))∧W.heap.size≤w'.heap.size∧Hid (zb r W w'∧zc r g (o2+5+5) (y-1-1) M w'):=fun W hK hR=>(cb W hK hR).mono fun e' w' h=>by
         obtain ⟨H,z⟩:=h;rw [if_pos h3] at z;obtain ⟨rfl,U⟩:=z;exact ⟨rfl,(H.block N (Nat.lt_of_lt_of_le K hK.size) (by omega)).trans ((hK.block N K (by omega)).trans ae.out),H.size,H,U⟩
        clear cb J;go_wp2_with fail
        go_region_with (go_at_call 171;refine (G _ (by first | exact zb.drew r wE | exact ((zb.refl r wE).alloc _).trans (zb.drew _ _)) (by first | exact au.out.keep rfl rfl | exact (au.out.alloc _).keep rfl rfl)).mono ?_;rintro e' w7 ⟨rfl,p7,bD,H7⟩;have aY:N<w7.heap.size:=(Array.getElem?_eq_some_iff.1 p7).1;have av:=(fun ob=>(Below.heap_alloc w7 ob N aY).trans p7);obtain ⟨m0,m1,m2,m3,m4,mf⟩:=zr p7;have aM:=ze m0;have aH:=ze m1;have aB:=ze m2;have aD:=ze m3;have aC:=ze m4;have aI:=(fun ob j=>(zr (av ob)).2.2.2.2.2 j))
        all_goals (obtain ⟨ap,A⟩:=H7.out)
        all_goals first
         | (have ag:zb r wE w7:=(zb.drew r wE).trans ap
            obtain ⟨W,hW⟩:∃W,W=(set5 w7 N (.int .i64 9) (.string (za Q.s)) (.int .i64 0) (.slice (some ⟨w7.heap.size,0,none⟩) 1 1) (.int .i64 (e.line:Int))).alloc (.cells #[.int .i64 S,.string V,.int .i64 Z,.slice p2 R X,.int .i64 (e.line:Int)] 90):=⟨_,rfl⟩;obtain ⟨hJ,E⟩:=zG.one (p:=fun f e ts=>zk f e ts) 9 Q.s hr aJ ar K ab.out I.out ad.out ag p7 aa.out A a0 HT.out aG A.few (.int .i64 9) rfl W hW
            have ax:Hid (zG r g N F w res (fun f e ts=>zk f e ts) W∧z6 r W<z6 r wr):=show _∧_<_ from ⟨hJ,by rw [E];exact aj⟩
            change Exit.inBlock _ _ _ _ ((set5 w7 N (.int .i64 9) (.string (za Q.s)) (.int .i64 0) (.slice (some ⟨w7.heap.size,0,none⟩) 1 1) (.int .i64 (e.line:Int))).alloc (.cells #[.int .i64 S,.string V,.int .i64 Z,.slice p2 R X,.int .i64 (e.line:Int)] 90))
            rw [←hW];clear hW hJ E A ag ap p7 av m0 m1 m2 m3 m4 mf aM aH aB aD aC aI n0 n1 n2 n3 n4 nf be bm bj bn bi G H7 ae aa HT ad D ab I Y aj aG T au;go_wp2
            exact ax.out)
         | (have ag:zb r (wE.alloc (.cells #[.int .i64 S,.string V,.int .i64 Z,.slice p2 R X,.int .i64 (e.line:Int)] 90)) w7:=(zb.drew r (wE.alloc (.cells #[.int .i64 S,.string V,.int .i64 Z,.slice p2 R X,.int .i64 (e.line:Int)] 90))).trans ap
            obtain ⟨W,hW⟩:∃W,W=set5 w7 N (.int .i64 9) (.string (za Q.s)) (.int .i64 0) (.slice (some ⟨wE.heap.size,0,none⟩) 1 1) (.int .i64 (e.line:Int)):=⟨_,rfl⟩;obtain ⟨hJ,E⟩:=zG.one' (p:=fun f e ts=>zk f e ts) 9 Q.s hr aJ ar K ab.out I.out ad.out ag p7 aa.out A a0 HT.out aG (.int .i64 9) rfl W hW
            have ax:Hid (zG r g N F w res (fun f e ts=>zk f e ts) W∧z6 r W<z6 r wr):=show _∧_<_ from ⟨hJ,by rw [E];exact aj⟩
            change Exit.inBlock _ _ _ _ (set5 w7 N (.int .i64 9) (.string (za Q.s)) (.int .i64 0) (.slice (some ⟨wE.heap.size,0,none⟩) 1 1) (.int .i64 (e.line:Int)))
            rw [←hW];clear hW hJ E A ag ap p7 av m0 m1 m2 m3 m4 mf aM aH aB aD aC aI n0 n1 n2 n3 n4 nf be bm bj bn bi G H7 ae aa HT ad D ab I Y aj aG T au;go_wp2
            exact ax.out)
       ·rw [if_neg h3] at J
        simp only [zm,Option.some.injEq] at J;subst J
        have G:∀W:World,zb r wE W→zc r g (o2+5) (y-1) (Q::M) W→Calls Tryz.prog 171 #[.pointer (some ⟨r,0,none⟩)] W fun e w'=>e=Ze Q.at0∧zb r w w':=fun W hK hR=>(cb W hK hR).mono fun e w' h=>by
         obtain ⟨H,z⟩:=h;rw [if_neg h3] at z;exact ⟨z,D.out.trans (hK.trans H)⟩
        clear cb;go_wp2_with fail
        go_region_dies
        all_goals
         go_wp2_with fail
         refine (G _ ?_ ?_).mono ?_
         ·first | exact zb.drew r wE | exact ((zb.refl r wE).alloc _).trans (zb.drew _ _)
         ·first | exact au.out.keep rfl rfl | exact (au.out.alloc _).keep rfl rfl
         ·rintro e w4 ⟨rfl,H⟩;exact ⟨rfl,H,rfl⟩
      ·have bs:zn t2 [46]=false:=by simpa using hd
       rw [bs] at cd;rw [if_neg hd] at J;simp only [Option.some.injEq] at J;subst J;go_wp2_with fail
       refine cd.mono ?_;clear cd;rintro e' wC ⟨rfl,a8,bg⟩;obtain ⟨pN,pz,a7⟩:=aQ.out wC (aR.out.trans a8) (by simpa using bg)
       obtain ⟨n0,n1,n2,n3,n4,nf⟩:=zr pN;obtain ⟨q0,q1,bG,q3,q4,qf⟩:=zr pz;obtain ⟨z0,z1,z2,z3,z4⟩:=zo pz (.int .i64 S) (.string V) (.int .i64 Z) (.slice p2 R X) (.int .i64 (e.line:Int));have br:Hid (zi r g w (.ok (e,t2::L)) (.returned (.agg #[.int .i64 S,.string V,.int .i64 Z,.slice p2 R X,.int .i64 (e.line:Int)])) (set5 wC w.heap.size (.int .i64 S) (.string V) (.int .i64 Z) (.slice p2 R X) (.int .i64 (e.line:Int)))):=a7;clear aQ am ab I Y a7 pN pz a8 bg aR ah;go_wp2
       exact bodyPost_ret (v:=.agg #[.int .i64 S,.string V,.int .i64 Z,.slice p2 R X,.int .i64 (e.line:Int)]) (by simp [results,Tryz.results147,go_sem,z0,z1,z2,z3,z4]) rfl br.out
end Go.Proofs.YtmbofhpmockmbaaGreatDoor
