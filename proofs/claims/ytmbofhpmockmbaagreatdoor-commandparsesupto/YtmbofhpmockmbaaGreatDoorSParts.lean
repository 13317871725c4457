import Derived.Test.YtmbofhpmockmbaaGreatDoorMC18
import Derived.Test.YtmbofhpmockmbaaGreatDoorMC17
import Derived.Deep.RegionWith
import Derived.Deep.DeepCutAuto
import Derived.Deep.CutRange
namespace Go.Proofs.YtmbofhpmockmbaaGreatDoor
open Go.RowKit Go.Shelf
set_option maxHeartbeats 16000000
set_option maxRecDepth 100000
def XQ (f:Nat) (e:Ex) (ts:List Tk):Option (PR Ex):=zq (Zj [93] ts) fun _ ts=>zr f e ts
theorem zaq (r g o cap F:Nat) (ts:List Tk) (w:World) (res:PR Ex) (h:zk r g o cap ts w) (hE:zt ts) (hp:zq (zC F ts) (fun e ts=>zr F e ts)=some res)
  (hsg:∀w1 o1 O ts1 r1,zC F ts1=some r1→zt ts1→zk r g o1 O ts1 w1→zc r w w1→Calls Tryz.prog 168 #[.pointer (some ⟨r,0,none⟩)] w1 (zu r g w1 r1))
  (hex:∀w1 o1 O ts1 r1,zh F 1 ts1=some r1→zt ts1→zk r g o1 O ts1 w1→zc r w w1→Calls Tryz.prog 74 #[.pointer (some ⟨r,0,none⟩)] w1 (zu r g w1 r1)) :
  Calls Tryz.prog 147 #[.pointer (some ⟨r,0,none⟩)] w (zu r g w res):=by
 obtain ⟨t0,bk,rfl⟩:=hE.cons;have hr:=h.lt.1;have aL:=h.lt.2;cases hb:zC F (t0::bk) with
 | none=>rw [hb] at hp;cases hp
 | some r1 =>
  obtain ⟨w0,aC⟩:∃w0,w0=w.alloc zL:=⟨_,rfl⟩;have c1:=hsg w0 o cap (t0::bk) r1 hb hE (by rw [aC];exact h.alloc _) (by rw [aC];exact (zc.refl r w).alloc _)
  rw [hb] at hp;simp only [zq] at hp;have ay:Hid (w0=w.alloc zL):=aC;have an:Hid (∀w1 o1 O ts1 r1,zh F 1 ts1=some r1→zt ts1→zk r g o1 O ts1 w1→zc r w w1→Calls Tryz.prog 74 #[.pointer (some ⟨r,0,none⟩)] w1 (zu r g w1 r1)):=hex;clear aC hex hsg
  go_enter Tryz.func147,Tryz.ntmps147
  go_wp2_with fail
  rw [←ay.out];refine c1.mono ?_;clear c1;rintro e w1 ⟨aM,z⟩;have be:zc r w w1:=by have:=ay.out;subst this;exact ((zc.refl r w).alloc _).trans aM
  rcases r1 with a | ⟨x,us⟩
  ·obtain rfl:=z
   simp only [Option.some.injEq] at hp;subst hp;exact ⟨rfl,be,rfl⟩
  ·obtain ⟨v,o1,O,rfl,hx,ad⟩:=z
   obtain ⟨a,b,c,d0,d1,d2,l,rfl⟩:=hx.agg;have a7:=(ZC F).2.2.2.2.1 _ _ _ hb hE;have hJ:=Zk.start (p:=fun f e ts=>zr f e ts) (res:=res) ay.out hr aM hx ad hp a7 ad.few
   have HJ:Hid (Zk r g w1.heap.size F w res (fun f e ts=>zr f e ts) (w1.alloc (.cells #[.int .i64 a,.string b,.int .i64 c,.slice d0 d1 d2,.int .i64 l] 90))):=hJ
   have aq:w.heap.size<w1.heap.size:=by have:=aM.size;have h2:=ay.out;subst h2;simp at this;omega
   obtain ⟨N,aV⟩:∃N,N=w1.heap.size:=⟨_,rfl⟩;rw [←aV] at HJ aq;clear hJ hx ad aM a7 hp hb hE h be ay;go_wp2_with fail
   rw [←aV];generalize hW0:w1.alloc (.cells #[.int .i64 a,.string b,.int .i64 c,.slice d0 d1 d2,.int .i64 l] 90)=W0 at *;clear hW0 aV
   go_loopw [7] (fun _ wr=>Zk r g N F w res (fun f e ts=>zr f e ts) wr) (fun _ wr=>ZM r wr)
   case atStart=>exact HJ.out
   case round =>
    obtain ⟨e,bF,o2,y,f2,T,b2,c2,V,Z,R,l2,bz,I,aD,bB,ap,aB,aw,a0,aI⟩:=hrel;obtain ⟨t2,M,rfl⟩:=aD.cons;obtain rfl:l2=(e.line:Int):=aB.line_eq;clear HJ;have cs:=ZF r g o2 y t2 M [91] wr aw (fun hi=>(aD.tail (zo hi)).ne)
    have az:=aw.left
    have aF:Hid (∀W,zc r wr W→zk r g o2 y (t2::M) W→W.heap[N]?=some (.cells #[.int .i64 T,.string b2,.int .i64 c2,.slice V Z R,.int .i64 (e.line:Int)] 90 (0,0))∧W.heap[w.heap.size]?=some zL ∧
     zu r g w (.ok (e,t2::M)) (.returned (.agg #[.int .i64 T,.string b2,.int .i64 c2,.slice V Z R,.int .i64 (e.line:Int)])) (set5 W w.heap.size (.int .i64 T) (.string b2) (.int .i64 c2) (.slice V Z R) (.int .i64 (e.line:Int)))) :=
     fun W hK ad=>Zk.leave hr aL aq a0 ap aI aB hK ad
    have af:Hid (∀W,zc r wr W→W.heap[N]?=some (.cells #[.int .i64 T,.string b2,.int .i64 c2,.slice V Z R,.int .i64 (e.line:Int)] 90 (0,0))∧W.heap[w.heap.size]?=some zL) :=
     fun W hK=>⟨(hK.block _ (Array.getElem?_eq_some_iff.1 ap).1 (by omega)).trans ap,(hK.block _ (Array.getElem?_eq_some_iff.1 aI).1 (by omega)).trans aI⟩
    have aa:Hid (zJ (fun k=>w.heap.size<k∧k≠N) wr e (.agg #[.int .i64 T,.string b2,.int .i64 c2,.slice V Z R,.int .i64 (e.line:Int)])):=aB
    have K:Hid (zc r w wr):=a0;have Y:Hid (zt (t2::M)):=aD;cases f2 with
    | zero=>simp [zr] at I
    | succ f3 =>
     have aZ:f3≤F:=by omega
     simp only [zr,z7,List.tail_cons] at I;clear aB a0 aw aD ap aI
     by_cases hi:zm t2 [91]=true
     ·rw [hi] at cs
      rw [if_pos hi] at I;have U:=Y.out.tail (zo hi);go_wp2_with fail
      refine cs.mono ?_;clear cs;rintro e' wE ⟨rfl,aj,av⟩;simp only [if_true] at av;obtain ⟨pN,pz⟩:=af.out wE aj;have X:Hid (zc r wr wE):=aj;have D:Hid (zc r w wE):=K.out.trans aj;have J:N<wE.heap.size:=(Array.getElem?_eq_some_iff.1 pN).1;cases hb3:zh f3 1 M with
      | none=>rw [hb3] at I;cases I
      | some r3 =>
       rw [hb3] at I;simp only [zq] at I
       have aW:zh F 1 M=some r3:=by
        have:=yA (k:=F-f3) hb3
        rwa [show f3+(F-f3)=F by omega] at this
       have cb:∀W:World,W.heap=wE.heap→W.os=wE.os→W.tape=wE.tape→W.output=wE.output→Calls Tryz.prog 74 #[.pointer (some ⟨r,0,none⟩)] W fun e w'=>zc r wE w'∧zu r g W r3 e w':=fun W e1 e2 e3 e4 =>
        (an.out W _ _ M r3 aW U (av.keep (by rw [e1]) (by rw [e1])) ⟨e2.trans D.out.os,e3.trans D.out.tape,e4.trans D.out.output,by rw [e1];exact D.out.size,fun k hk hr=>by rw [e1];exact D.out.block k hk hr⟩).mono fun e w' h =>
         ⟨⟨h.1.os.trans e2,h.1.tape.trans e3,h.1.output.trans e4,by rw [←e1];exact h.1.size,fun k hk hr=>by rw [←e1];exact h.1.block k (by rw [e1];exact hk) hr⟩,h⟩
       obtain ⟨n0,n1,n2,n3,n4,nf⟩:=ze pN;have ae:Hid (wE.heap[N]?=some (.cells #[.int .i64 T,.string b2,.int .i64 c2,.slice V Z R,.int .i64 (e.line:Int)] 90 (0,0))):=pN;have ab:Hid (wE.heap[w.heap.size]?=some zL):=pz;clear pN pz av aj an af aF;rcases r3 with a3 | ⟨x3,aY⟩
       ·simp only [Option.some.injEq] at I
        subst I;have H:∀W:World,W.heap=wE.heap→W.os=wE.os→W.tape=wE.tape→W.output=wE.output→Calls Tryz.prog 74 #[.pointer (some ⟨r,0,none⟩)] W fun e w'=>e=ZU a3∧zc r w w':=fun W e1 e2 e3 e4=>(cb W e1 e2 e3 e4).mono fun e w' h=>⟨h.2.2,D.out.trans h.1⟩
        clear cb;go_wp2_with fail
        go_region_dies
        all_goals (go_wp2_with fail;refine (H _ (by rfl) (by rfl) (by rfl) (by rfl)).mono ?_;rintro e w4 ⟨rfl,G⟩;exact ⟨rfl,G,rfl⟩)
       ·have bd:=(ZC F).1 _ _ _ _ aW U
        have bq:=yg aW;have ai:aY.length<ZM r wr:=by rw [az];simp only [List.length_cons];omega
        have HT:Hid (XQ f3 (.mk 8 [] 0 [e,x3] e.line) aY=some res):=I
        have H:∀W:World,W.heap=wE.heap→W.os=wE.os→W.tape=wE.tape→W.output=wE.output→Calls Tryz.prog 74 #[.pointer (some ⟨r,0,none⟩)] W fun e' w'=>∃(a3:Int) (b3:ByteArray) (c3:Int) (u0:Option Addr) (u1 u2:Nat) (l3:Int),e'=.returned (.agg #[.int .i64 a3,.string b3,.int .i64 c3,.slice u0 u1 u2,.int .i64 l3]) ∧
          w'.heap[N]?=some (.cells #[.int .i64 T,.string b2,.int .i64 c2,.slice V Z R,.int .i64 (e.line:Int)] 90 (0,0))∧Hid (zc r wE w'∧zO wE.heap.size w' x3 (.agg #[.int .i64 a3,.string b3,.int .i64 c3,.slice u0 u1 u2,.int .i64 l3])∧∃o cap,zk r g o cap aY w'):=fun W e1 e2 e3 e4=>(cb W e1 e2 e3 e4).mono fun e' w' h=>by
         obtain ⟨G,-,v,o4,ba,rfl,hx,ad⟩:=h;obtain ⟨a3,b3,c3,u0,u1,u2,l3,rfl⟩:=hx.agg;exact ⟨a3,b3,c3,u0,u1,u2,l3,rfl,(G.block N J (by omega)).trans ae.out,G,(by rw [←e1];exact hx:zO wE.heap.size w' x3 _),o4,ba,ad⟩
        clear cb I;go_wp2_with fail
        go_cut [] from 6 to 28 (fun wx=>Zk r g N F w res XQ wx∧ZM r wx<ZM r wr)
        case first =>
         go_region_with (go_at_call 74;refine (H _ (by rfl) (by rfl) (by rfl) (by rfl)).mono ?_;rintro e' w7 ⟨a3,b3,c3,u0,u1,u2,l3,rfl,p7,H7⟩;have a4:N<w7.heap.size:=(Array.getElem?_eq_some_iff.1 p7).1;have au:=(fun ob=>(Below.heap_alloc w7 ob N a4).trans p7);obtain ⟨m0,m1,m2,m3,m4,mf⟩:=ze p7;have aO:=zd m0;have aH:=zd m1;have aG:=zd m2;have aR:=zd m3;have aN:=zd m4;have aK:=(fun ob j=>(ze (au ob)).2.2.2.2.2 j))
         all_goals
          obtain ⟨ah,bm,o7,bx,A⟩:=H7.out;obtain ⟨W,hW⟩:∃W,W=(set5 w7 N (.int .i64 8) (.string ⟨#[]⟩) (.int .i64 0) (.slice (some ⟨w7.heap.size,0,none⟩) 2 2) (.int .i64 (e.line:Int))).alloc (.cells #[.int .i64 T,.string b2,.int .i64 c2,.slice V Z R,.int .i64 (e.line:Int),.int .i64 a3,.string b3,.int .i64 c3,.slice u0 u1 u2,.int .i64 l3] 90):=⟨_,rfl⟩;obtain ⟨hJ,E⟩:=Zk.two (p:=XQ) 8 [] hr aL aq J aa.out K.out X.out ah p7 ab.out bm A aZ HT.out bd A.few (.int .i64 8) rfl W hW;have ax:Hid (Zk r g N F w res XQ W∧ZM r W<ZM r wr):=show _∧_<_ from ⟨hJ,by rw [E];exact ai⟩
          change Exit.then _ _ _ _ ((set5 w7 N (.int .i64 8) (.string ⟨#[]⟩) (.int .i64 0) (.slice (some ⟨w7.heap.size,0,none⟩) 2 2) (.int .i64 (e.line:Int))).alloc (.cells #[.int .i64 T,.string b2,.int .i64 c2,.slice V Z R,.int .i64 (e.line:Int),.int .i64 a3,.string b3,.int .i64 c3,.slice u0 u1 u2,.int .i64 l3] 90))
          rw [←hW];clear hW hJ E A bm ah p7 au m0 m1 m2 m3 m4 mf aO aH aG aR aN aK n0 n1 n2 n3 n4 nf H H7 ae ab HT X D aa K Y bq ai bd U;go_wp2_with fail
          go_meet
          exact ax.out
        case rest =>
         obtain ⟨⟨e5,bG,o5,aT,f5,a5,b5,c5,p5,q5,s5,l5,bw,ag,aX,bC,ak,a6,ao,aP,a1⟩,bE⟩:=hcut;obtain ⟨t5,bo,rfl⟩:=aX.cons;have cn:=xV r g o5 aT t5 bo [93] wc ao (fun hi=>(aX.tail (zo hi)).ne)
         have aA:=ao.left
         unfold XQ Zj at ag
         simp only [z7,List.tail_cons] at ag
         by_cases hm:zm t5 [93]=true
         ·simp only [if_pos hm] at cn
          rw [if_pos hm] at ag
          have bn:Hid (∀W,zc r wc W→zk r g (o5+5) (aT-1) bo W→Zk r g N F w res (fun f e ts=>zr f e ts) W∧ZM r W<ZM r wr):=fun W hK hR =>
           ⟨Zk.moved (p:=fun f e ts=>zr f e ts) hr aq ak a6 aP a1 hK hR bw ag (aX.tail (zo hm)),by rw [hR.left];simp only [List.length_cons] at aA;omega⟩
          clear ag ak a6 ao aP a1 H HT aa K Y X D ae ab n0 n1 n2 n3 n4 nf;go_wp2_with fail
          refine cn.mono ?_;clear cn;rintro e9 w9 ⟨aJ,rfl,bf⟩;have bv:Hid (Zk r g N F w res (fun f e ts=>zr f e ts) w9∧ZM r w9<ZM r wr):=bn.out w9 aJ bf
          clear bn aJ bf;go_wp2
          exact bv.out
         ·simp only [if_neg hm] at cn
          rw [if_neg hm] at ag;simp only [zq,Option.some.injEq] at ag;subst ag;have bs:Hid (zc r w wc):=aP;clear ak a6 ao aP a1 H HT aa K Y X D ae ab n0 n1 n2 n3 n4 nf;go_wp2_with fail
          refine cn.mono ?_;clear cn;rintro e9 w9 ⟨aJ,rfl⟩;exact ⟨rfl,bs.out.trans aJ,rfl⟩
     ·have br:zm t2 [91]=false:=by simpa using hi
      rw [br] at cs;rw [if_neg hi] at I;go_wp2_with fail
      refine cs.mono ?_;clear cs;rintro e' wB ⟨rfl,a9,bi⟩;have aS:zk r g o2 y (t2::M) wB:=by simpa using bi
      have cd:=ZF r g o2 y t2 M [46] wB aS (fun hi=>(Y.out.tail (zo hi)).ne)
      have aQ:Hid (zc r wr wB):=a9;clear a9 bi aS
      by_cases hd:zm t2 [46]=true
      ·rw [hd] at cd
       rw [if_pos hd] at I;have U:=Y.out.tail (zo hd);obtain ⟨Q,L,rfl⟩:=U.cons;go_wp2_with fail
       refine cd.mono ?_;clear cd;rintro e' wE ⟨rfl,aj,av⟩;have am:zc r wr wE:=aQ.out.trans aj;have aU:zk r g (o2+5) (y-1) (Q::L) wE:=by simpa using av
       obtain ⟨pN,pz⟩:=af.out wE am;have X:Hid (zc r wr wE):=am;have D:Hid (zc r w wE):=K.out.trans am;have J:N<wE.heap.size:=(Array.getElem?_eq_some_iff.1 pN).1;have ar:Hid (zk r g (o2+5) (y-1) (Q::L) wE):=aU;obtain ⟨n0,n1,n2,n3,n4,nf⟩:=ze pN;have bg:=zd n0;have bj:=zd n1;have bc:=zd n2;have bb:=zd n3;have bp:=zd n4;have ae:Hid (wE.heap[N]?=some (.cells #[.int .i64 T,.string b2,.int .i64 c2,.slice V Z R,.int .i64 (e.line:Int)] 90 (0,0))):=pN;have ab:Hid (wE.heap[w.heap.size]?=some zL):=pz
       have cb:∀W:World,zc r wE W→zk r g (o2+5) (y-1) (Q::L) W→Calls Tryz.prog 171 #[.pointer (some ⟨r,0,none⟩)] W fun e w'=>zc r W w'∧if Q.k=1 then e=.returned (.string (za Q.s))∧zk r g (o2+5+5) (y-1-1) L w' else e=ZU Q.at0:=fun W hK hR =>
        VI r g _ _ Q L W hR (fun hk=>(U.tail (by omega)).ne)
       simp only [yI,z7,List.tail_cons] at I;clear pN pz av aU aj am aQ af aF an
       by_cases h3:Q.k=1
       ·rw [if_pos h3] at I
        have aE:=U.tail (by omega:Q.k≠0)
        have ai:L.length<ZM r wr:=by rw [az];simp only [List.length_cons];omega
        have HT:Hid (zr f3 (.mk 9 Q.s 0 [e] e.line) L=some res):=I
        have H:∀W:World,zc r wE W→zk r g (o2+5) (y-1) (Q::L) W→Calls Tryz.prog 171 #[.pointer (some ⟨r,0,none⟩)] W fun e' w'=>e'=.returned (.string (za Q.s))∧w'.heap[N]?=some (.cells #[.int .i64 T,.string b2,.int .i64 c2,.slice V Z R,.int .i64 (e.line:Int)] 90 (0,0))∧W.heap.size≤w'.heap.size∧Hid (zc r W w'∧zk r g (o2+5+5) (y-1-1) L w'):=fun W hK hR=>(cb W hK hR).mono fun e' w' h=>by
         obtain ⟨G,z⟩:=h;rw [if_pos h3] at z;obtain ⟨rfl,ad⟩:=z;exact ⟨rfl,(G.block N (Nat.lt_of_lt_of_le J hK.size) (by omega)).trans ((hK.block N J (by omega)).trans ae.out),G.size,G,ad⟩
        clear cb I;go_wp2_with fail
        go_region_with (go_at_call 171;refine (H _ (by first | exact zc.drew r wE | exact ((zc.refl r wE).alloc _).trans (zc.drew _ _)) (by first | exact ar.out.keep rfl rfl | exact (ar.out.alloc _).keep rfl rfl)).mono ?_;rintro e' w7 ⟨rfl,p7,bA,H7⟩;have a4:N<w7.heap.size:=(Array.getElem?_eq_some_iff.1 p7).1;have au:=(fun ob=>(Below.heap_alloc w7 ob N a4).trans p7);obtain ⟨m0,m1,m2,m3,m4,mf⟩:=ze p7;have aO:=zd m0;have aH:=zd m1;have aG:=zd m2;have aR:=zd m3;have aN:=zd m4;have aK:=(fun ob j=>(ze (au ob)).2.2.2.2.2 j))
        all_goals (obtain ⟨al,A⟩:=H7.out)
        all_goals first
         | (have ah:zc r wE w7:=(zc.drew r wE).trans al
            obtain ⟨W,hW⟩:∃W,W=(set5 w7 N (.int .i64 9) (.string (za Q.s)) (.int .i64 0) (.slice (some ⟨w7.heap.size,0,none⟩) 1 1) (.int .i64 (e.line:Int))).alloc (.cells #[.int .i64 T,.string b2,.int .i64 c2,.slice V Z R,.int .i64 (e.line:Int)] 90):=⟨_,rfl⟩;obtain ⟨hJ,E⟩:=Zk.one (p:=fun f e ts=>zr f e ts) 9 Q.s hr aL aq J aa.out K.out X.out ah p7 ab.out A aZ HT.out aE A.few (.int .i64 9) rfl W hW
            have ax:Hid (Zk r g N F w res (fun f e ts=>zr f e ts) W∧ZM r W<ZM r wr):=show _∧_<_ from ⟨hJ,by rw [E];exact ai⟩
            change Exit.inBlock _ _ _ _ ((set5 w7 N (.int .i64 9) (.string (za Q.s)) (.int .i64 0) (.slice (some ⟨w7.heap.size,0,none⟩) 1 1) (.int .i64 (e.line:Int))).alloc (.cells #[.int .i64 T,.string b2,.int .i64 c2,.slice V Z R,.int .i64 (e.line:Int)] 90))
            rw [←hW];clear hW hJ E A ah al p7 au m0 m1 m2 m3 m4 mf aO aH aG aR aN aK n0 n1 n2 n3 n4 nf bg bj bc bb bp H H7 ae ab HT X D aa K Y ai aE U ar;go_wp2
            exact ax.out)
         | (have ah:zc r (wE.alloc (.cells #[.int .i64 T,.string b2,.int .i64 c2,.slice V Z R,.int .i64 (e.line:Int)] 90)) w7:=(zc.drew r (wE.alloc (.cells #[.int .i64 T,.string b2,.int .i64 c2,.slice V Z R,.int .i64 (e.line:Int)] 90))).trans al
            obtain ⟨W,hW⟩:∃W,W=set5 w7 N (.int .i64 9) (.string (za Q.s)) (.int .i64 0) (.slice (some ⟨wE.heap.size,0,none⟩) 1 1) (.int .i64 (e.line:Int)):=⟨_,rfl⟩;obtain ⟨hJ,E⟩:=Zk.one' (p:=fun f e ts=>zr f e ts) 9 Q.s hr aL aq J aa.out K.out X.out ah p7 ab.out A aZ HT.out aE (.int .i64 9) rfl W hW
            have ax:Hid (Zk r g N F w res (fun f e ts=>zr f e ts) W∧ZM r W<ZM r wr):=show _∧_<_ from ⟨hJ,by rw [E];exact ai⟩
            change Exit.inBlock _ _ _ _ (set5 w7 N (.int .i64 9) (.string (za Q.s)) (.int .i64 0) (.slice (some ⟨wE.heap.size,0,none⟩) 1 1) (.int .i64 (e.line:Int)))
            rw [←hW];clear hW hJ E A ah al p7 au m0 m1 m2 m3 m4 mf aO aH aG aR aN aK n0 n1 n2 n3 n4 nf bg bj bc bb bp H H7 ae ab HT X D aa K Y ai aE U ar;go_wp2
            exact ax.out)
       ·rw [if_neg h3] at I
        simp only [zq,Option.some.injEq] at I;subst I
        have H:∀W:World,zc r wE W→zk r g (o2+5) (y-1) (Q::L) W→Calls Tryz.prog 171 #[.pointer (some ⟨r,0,none⟩)] W fun e w'=>e=ZU Q.at0∧zc r w w':=fun W hK hR=>(cb W hK hR).mono fun e w' h=>by
         obtain ⟨G,z⟩:=h;rw [if_neg h3] at z;exact ⟨z,D.out.trans (hK.trans G)⟩
        clear cb;go_wp2_with fail
        go_region_dies
        all_goals
         go_wp2_with fail
         refine (H _ ?_ ?_).mono ?_
         ·first | exact zc.drew r wE | exact ((zc.refl r wE).alloc _).trans (zc.drew _ _)
         ·first | exact ar.out.keep rfl rfl | exact (ar.out.alloc _).keep rfl rfl
         ·rintro e w4 ⟨rfl,G⟩;exact ⟨rfl,G,rfl⟩
      ·have bt:zm t2 [46]=false:=by simpa using hd
       rw [bt] at cd;rw [if_neg hd] at I;simp only [Option.some.injEq] at I;subst I;go_wp2_with fail
       refine cd.mono ?_;clear cd;rintro e' wC ⟨rfl,bh,a8⟩;obtain ⟨pN,pz,bl⟩:=aF.out wC (aQ.out.trans bh) (by simpa using a8)
       obtain ⟨n0,n1,n2,n3,n4,nf⟩:=ze pN;obtain ⟨q0,q1,bD,q3,q4,qf⟩:=ze pz;obtain ⟨z0,z1,z2,z3,z4⟩:=zj pz (.int .i64 T) (.string b2) (.int .i64 c2) (.slice V Z R) (.int .i64 (e.line:Int));have bu:Hid (zu r g w (.ok (e,t2::M)) (.returned (.agg #[.int .i64 T,.string b2,.int .i64 c2,.slice V Z R,.int .i64 (e.line:Int)])) (set5 wC w.heap.size (.int .i64 T) (.string b2) (.int .i64 c2) (.slice V Z R) (.int .i64 (e.line:Int)))):=bl;clear aF an aa K Y bl pN pz bh a8 aQ af;go_wp2
       exact bodyPost_ret (v:=.agg #[.int .i64 T,.string b2,.int .i64 c2,.slice V Z R,.int .i64 (e.line:Int)]) (by simp [results,Tryz.results147,go_sem,z0,z1,z2,z3,z4]) rfl bu.out
end Go.Proofs.YtmbofhpmockmbaaGreatDoor
