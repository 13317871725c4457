import Derived.Test.YtmbofhpmockmbaaGreatDoorMC27
import Derived.Test.YtmbofhpmockmbaaGreatDoorSSingle3
import Derived.Deep.RegionWith
import Derived.Deep.DeepCutAuto
import Derived.Deep.CutRange
namespace Go.Proofs.YtmbofhpmockmbaaGreatDoor
open Go.RowKit Go.Shelf
set_option maxHeartbeats 16000000
set_option maxRecDepth 100000
def Yu (f:Nat) (e:Ex) (ts:List Tk):Option (PR Ex):=zm (Zb [93] ts) fun _ ts=>zk f e ts
theorem Vy (r g o cap F:Nat) (ts:List Tk) (w:World) (res:PR Ex) (h:zc r g o cap ts w) (hE:zh ts) (hp:zm (zt F ts) (fun e ts=>zk F e ts)=some res)
  (hsg:∀w1 o1 O ts1 r1,zt F ts1=some r1→zh ts1→zc r g o1 O ts1 w1→zb r w w1→Calls Tryz.prog 168 #[.pointer (some ⟨r,0,none⟩)] w1 (zi r g w1 r1))
  (hex:∀w1 o1 O ts1 r1,zd F 1 ts1=some r1→zh ts1→zc r g o1 O ts1 w1→zb r w w1→Calls Tryz.prog 74 #[.pointer (some ⟨r,0,none⟩)] w1 (zi r g w1 r1)) :
  Calls Tryz.prog 147 #[.pointer (some ⟨r,0,none⟩)] w (zi r g w res):=by
 obtain ⟨t0,a6,rfl⟩:=hE.cons;have hr:=h.lt.1;have aK:=h.lt.2;cases hb:zt F (t0::a6) with
 | none=>rw [hb] at hp;cases hp
 | some r1 =>
  obtain ⟨w0,aG⟩:∃w0,w0=w.alloc zA:=⟨_,rfl⟩;have c1:=hsg w0 o cap (t0::a6) r1 hb hE (by rw [aG];exact h.alloc _) (by rw [aG];exact (zb.refl r w).alloc _)
  rw [hb] at hp;simp only [zm] at hp;have aw:Hid (w0=w.alloc zA):=aG;have al:Hid (∀w1 o1 O ts1 r1,zd F 1 ts1=some r1→zh ts1→zc r g o1 O ts1 w1→zb r w w1→Calls Tryz.prog 74 #[.pointer (some ⟨r,0,none⟩)] w1 (zi r g w1 r1)):=hex;clear aG hex hsg
  go_enter Tryz.func147,Tryz.ntmps147
  go_wp2_with fail
  rw [←aw.out];refine c1.mono ?_;clear c1;rintro e w1 ⟨aA,y⟩;have bn:zb r w w1:=by have:=aw.out;subst this;exact ((zb.refl r w).alloc _).trans aA
  rcases r1 with a | ⟨x,us⟩
  ·obtain rfl:=y
   simp only [Option.some.injEq] at hp;subst hp;exact ⟨rfl,bn,rfl⟩
  ·obtain ⟨v,o1,O,rfl,hx,aa⟩:=y
   obtain ⟨a,b,c,d0,d1,d2,l,rfl⟩:=hx.agg;have ba:=(zR F).2.2.2.2.1 _ _ _ hb hE;have hJ:=zG.start (p:=fun f e ts=>zk f e ts) (res:=res) aw.out hr aA hx aa hp ba aa.few
   have HJ:Hid (zG r g w1.heap.size F w res (fun f e ts=>zk f e ts) (w1.alloc (.cells #[.int .i64 a,.string b,.int .i64 c,.slice d0 d1 d2,.int .i64 l] 90))):=hJ
   have ar:w.heap.size<w1.heap.size:=by have:=aA.size;have h2:=aw.out;subst h2;simp at this;omega
   obtain ⟨N,a1⟩:∃N,N=w1.heap.size:=⟨_,rfl⟩;rw [←a1] at HJ ar;clear hJ hx aa aA ba hp hb hE h bn aw;go_wp2_with fail
   rw [←a1];generalize hW0:w1.alloc (.cells #[.int .i64 a,.string b,.int .i64 c,.slice d0 d1 d2,.int .i64 l] 90)=W0 at *;clear hW0 a1
   go_loopw [7] (fun _ wr=>zG r g N F w res (fun f e ts=>zk f e ts) wr) (fun _ wr=>z6 r wr)
   case atStart=>exact HJ.out
   case round =>
    obtain ⟨e,bE,o2,z,f2,a2,U,V,p2,q2,T,l2,bA,K,az,bz,am,aM,au,aV,aC⟩:=hrel;obtain ⟨t2,L,rfl⟩:=az.cons;obtain rfl:l2=(e.line:Int):=aM.line_eq;clear HJ;have cs:=zX r g o2 z t2 L [91] wr au (fun hi=>(az.tail (zf hi)).ne)
    have av:=au.left
    have aI:Hid (∀W,zb r wr W→zc r g o2 z (t2::L) W→W.heap[N]?=some (.cells #[.int .i64 a2,.string U,.int .i64 V,.slice p2 q2 T,.int .i64 (e.line:Int)] 90 (0,0))∧W.heap[w.heap.size]?=some zA ∧
     zi r g w (.ok (e,t2::L)) (.returned (.agg #[.int .i64 a2,.string U,.int .i64 V,.slice p2 q2 T,.int .i64 (e.line:Int)])) (set5 W w.heap.size (.int .i64 a2) (.string U) (.int .i64 V) (.slice p2 q2 T) (.int .i64 (e.line:Int)))) :=
     fun W hK aa=>zG.leave hr aK ar aV am aC aM hK aa
    have ad:Hid (∀W,zb r wr W→W.heap[N]?=some (.cells #[.int .i64 a2,.string U,.int .i64 V,.slice p2 q2 T,.int .i64 (e.line:Int)] 90 (0,0))∧W.heap[w.heap.size]?=some zA) :=
     fun W hK=>⟨(hK.block _ (Array.getElem?_eq_some_iff.1 am).1 (by omega)).trans am,(hK.block _ (Array.getElem?_eq_some_iff.1 aC).1 (by omega)).trans aC⟩
    have R:Hid (zy (fun k=>w.heap.size<k∧k≠N) wr e (.agg #[.int .i64 a2,.string U,.int .i64 V,.slice p2 q2 T,.int .i64 (e.line:Int)])):=aM
    have J:Hid (zb r w wr):=aV;have S:Hid (zh (t2::L)):=az;cases f2 with
    | zero=>simp [zk] at K
    | succ f3 =>
     have a0:f3≤F:=by omega
     simp only [zk,zD,List.tail_cons] at K;clear aM aV au az am aC
     by_cases hi:zn t2 [91]=true
     ·rw [hi] at cs
      rw [if_pos hi] at K;have Y:=S.out.tail (zf hi);go_wp2_with fail
      refine cs.mono ?_;clear cs;rintro e' wE ⟨rfl,ag,ap⟩;simp only [if_true] at ap;obtain ⟨pN,pz⟩:=ad.out wE ag;have X:Hid (zb r wr wE):=ag;have D:Hid (zb r w wE):=J.out.trans ag;have I:N<wE.heap.size:=(Array.getElem?_eq_some_iff.1 pN).1;cases hb3:zd f3 1 L with
      | none=>rw [hb3] at K;cases K
      | some r3 =>
       rw [hb3] at K;simp only [zm] at K
       have aW:zd F 1 L=some r3:=by
        have:=ZC (k:=F-f3) hb3
        rwa [show f3+(F-f3)=F by omega] at this
       have cb:∀W:World,W.heap=wE.heap→W.os=wE.os→W.tape=wE.tape→W.output=wE.output→Calls Tryz.prog 74 #[.pointer (some ⟨r,0,none⟩)] W fun e w'=>zb r wE w'∧zi r g W r3 e w':=fun W e1 e2 e3 e4 =>
        (al.out W _ _ L r3 aW Y (ap.keep (by rw [e1]) (by rw [e1])) ⟨e2.trans D.out.os,e3.trans D.out.tape,e4.trans D.out.output,by rw [e1];exact D.out.size,fun k hk hr=>by rw [e1];exact D.out.block k hk hr⟩).mono fun e w' h =>
         ⟨⟨h.1.os.trans e2,h.1.tape.trans e3,h.1.output.trans e4,by rw [←e1];exact h.1.size,fun k hk hr=>by rw [←e1];exact h.1.block k (by rw [e1];exact hk) hr⟩,h⟩
       obtain ⟨n0,n1,n2,n3,n4,nf⟩:=zr pN;have af:Hid (wE.heap[N]?=some (.cells #[.int .i64 a2,.string U,.int .i64 V,.slice p2 q2 T,.int .i64 (e.line:Int)] 90 (0,0))):=pN;have Z:Hid (wE.heap[w.heap.size]?=some zA):=pz;clear pN pz ap ag al ad aI;rcases r3 with a3 | ⟨x3,aX⟩
       ·simp only [Option.some.injEq] at K
        subst K;have H:∀W:World,W.heap=wE.heap→W.os=wE.os→W.tape=wE.tape→W.output=wE.output→Calls Tryz.prog 74 #[.pointer (some ⟨r,0,none⟩)] W fun e w'=>e=Ze a3∧zb r w w':=fun W e1 e2 e3 e4=>(cb W e1 e2 e3 e4).mono fun e w' h=>⟨h.2.2,D.out.trans h.1⟩
        clear cb;go_wp2_with fail
        go_region_dies
        all_goals (go_wp2_with fail;refine (H _ (by rfl) (by rfl) (by rfl) (by rfl)).mono ?_;rintro e w4 ⟨rfl,G⟩;exact ⟨rfl,G,rfl⟩)
       ·have bj:=(zR F).1 _ _ _ _ aW Y
        have bs:=Zp aW;have ah:aX.length<z6 r wr:=by rw [av];simp only [List.length_cons];omega
        have HT:Hid (Yu f3 (.mk 8 [] 0 [e,x3] e.line) aX=some res):=K
        have H:∀W:World,W.heap=wE.heap→W.os=wE.os→W.tape=wE.tape→W.output=wE.output→Calls Tryz.prog 74 #[.pointer (some ⟨r,0,none⟩)] W fun e' w'=>∃(a3:Int) (b3:ByteArray) (c3:Int) (u0:Option Addr) (u1 u2:Nat) (l3:Int),e'=.returned (.agg #[.int .i64 a3,.string b3,.int .i64 c3,.slice u0 u1 u2,.int .i64 l3]) ∧
          w'.heap[N]?=some (.cells #[.int .i64 a2,.string U,.int .i64 V,.slice p2 q2 T,.int .i64 (e.line:Int)] 90 (0,0))∧Hid (zb r wE w'∧zM wE.heap.size w' x3 (.agg #[.int .i64 a3,.string b3,.int .i64 c3,.slice u0 u1 u2,.int .i64 l3])∧∃o cap,zc r g o cap aX w'):=fun W e1 e2 e3 e4=>(cb W e1 e2 e3 e4).mono fun e' w' h=>by
         obtain ⟨G,-,v,o4,a9,rfl,hx,aa⟩:=h;obtain ⟨a3,b3,c3,u0,u1,u2,l3,rfl⟩:=hx.agg;exact ⟨a3,b3,c3,u0,u1,u2,l3,rfl,(G.block N I (by omega)).trans af.out,G,(by rw [←e1];exact hx:zM wE.heap.size w' x3 _),o4,a9,aa⟩
        clear cb K;go_wp2_with fail
        go_cut [] from 6 to 28 (fun wx=>zG r g N F w res Yu wx∧z6 r wx<z6 r wr)
        case first =>
         go_region_with (go_at_call 74;refine (H _ (by rfl) (by rfl) (by rfl) (by rfl)).mono ?_;rintro e' w7 ⟨a3,b3,c3,u0,u1,u2,l3,rfl,p7,H7⟩;have aT:N<w7.heap.size:=(Array.getElem?_eq_some_iff.1 p7).1;have aq:=(fun ob=>(Below.heap_alloc w7 ob N aT).trans p7);obtain ⟨m0,m1,m2,m3,m4,mf⟩:=zr p7;have aE:=ze m0;have aH:=ze m1;have aN:=ze m2;have aD:=ze m3;have aJ:=ze m4;have aL:=(fun ob j=>(zr (aq ob)).2.2.2.2.2 j))
         all_goals
          obtain ⟨ab,bm,o7,bv,A⟩:=H7.out;obtain ⟨W,hW⟩:∃W,W=(set5 w7 N (.int .i64 8) (.string ⟨#[]⟩) (.int .i64 0) (.slice (some ⟨w7.heap.size,0,none⟩) 2 2) (.int .i64 (e.line:Int))).alloc (.cells #[.int .i64 a2,.string U,.int .i64 V,.slice p2 q2 T,.int .i64 (e.line:Int),.int .i64 a3,.string b3,.int .i64 c3,.slice u0 u1 u2,.int .i64 l3] 90):=⟨_,rfl⟩;obtain ⟨hJ,E⟩:=zG.two (p:=Yu) 8 [] hr aK ar I R.out J.out X.out ab p7 Z.out bm A a0 HT.out bj A.few (.int .i64 8) rfl W hW;have ax:Hid (zG r g N F w res Yu W∧z6 r W<z6 r wr):=show _∧_<_ from ⟨hJ,by rw [E];exact ah⟩
          change Exit.then _ _ _ _ ((set5 w7 N (.int .i64 8) (.string ⟨#[]⟩) (.int .i64 0) (.slice (some ⟨w7.heap.size,0,none⟩) 2 2) (.int .i64 (e.line:Int))).alloc (.cells #[.int .i64 a2,.string U,.int .i64 V,.slice p2 q2 T,.int .i64 (e.line:Int),.int .i64 a3,.string b3,.int .i64 c3,.slice u0 u1 u2,.int .i64 l3] 90))
          rw [←hW];clear hW hJ E A bm ab p7 aq m0 m1 m2 m3 m4 mf aE aH aN aD aJ aL n0 n1 n2 n3 n4 nf H H7 af Z HT X D R J S bs ah bj Y;go_wp2_with fail
          go_meet
          exact ax.out
        case rest =>
         obtain ⟨⟨e5,bB,o5,aS,f5,a5,b5,c5,p5,q5,s5,l5,bu,ae,aY,bC,ai,aU,aj,aO,aZ⟩,bw⟩:=hcut;obtain ⟨t5,a4,rfl⟩:=aY.cons;have cn:=yP r g o5 aS t5 a4 [93] wc aj (fun hi=>(aY.tail (zf hi)).ne)
         have ay:=aj.left
         unfold Yu Zb at ae
         simp only [zD,List.tail_cons] at ae
         by_cases hm:zn t5 [93]=true
         ·simp only [if_pos hm] at cn
          rw [if_pos hm] at ae
          have a7:Hid (∀W,zb r wc W→zc r g (o5+5) (aS-1) a4 W→zG r g N F w res (fun f e ts=>zk f e ts) W∧z6 r W<z6 r wr):=fun W hK hR =>
           ⟨zG.moved (p:=fun f e ts=>zk f e ts) hr ar ai aU aO aZ hK hR bu ae (aY.tail (zf hm)),by rw [hR.left];simp only [List.length_cons] at ay;omega⟩
          clear ae ai aU aj aO aZ H HT R J S X D af Z n0 n1 n2 n3 n4 nf;go_wp2_with fail
          refine cn.mono ?_;clear cn;rintro e9 w9 ⟨aB,rfl,bk⟩;have bq:Hid (zG r g N F w res (fun f e ts=>zk f e ts) w9∧z6 r w9<z6 r wr):=a7.out w9 aB bk
          clear a7 aB bk;go_wp2
          exact bq.out
         ·simp only [if_neg hm] at cn
          rw [if_neg hm] at ae;simp only [zm,Option.some.injEq] at ae;subst ae;have bt:Hid (zb r w wc):=aO;clear ai aU aj aO aZ H HT R J S X D af Z n0 n1 n2 n3 n4 nf;go_wp2_with fail
          refine cn.mono ?_;clear cn;rintro e9 w9 ⟨aB,rfl⟩;exact ⟨rfl,bt.out.trans aB,rfl⟩
     ·have bo:zn t2 [91]=false:=by simpa using hi
      rw [bo] at cs;rw [if_neg hi] at K;go_wp2_with fail
      refine cs.mono ?_;clear cs;rintro e' wB ⟨rfl,bi,be⟩;have aR:zc r g o2 z (t2::L) wB:=by simpa using be
      have cd:=zX r g o2 z t2 L [46] wB aR (fun hi=>(S.out.tail (zf hi)).ne)
      have aF:Hid (zb r wr wB):=bi;clear bi be aR
      by_cases hd:zn t2 [46]=true
      ·rw [hd] at cd
       rw [if_pos hd] at K;have Y:=S.out.tail (zf hd);obtain ⟨Q,M,rfl⟩:=Y.cons;go_wp2_with fail
       refine cd.mono ?_;clear cd;rintro e' wE ⟨rfl,ag,ap⟩;have an:zb r wr wE:=aF.out.trans ag;have aQ:zc r g (o2+5) (z-1) (Q::M) wE:=by simpa using ap
       obtain ⟨pN,pz⟩:=ad.out wE an;have X:Hid (zb r wr wE):=an;have D:Hid (zb r w wE):=J.out.trans an;have I:N<wE.heap.size:=(Array.getElem?_eq_some_iff.1 pN).1;have ao:Hid (zc r g (o2+5) (z-1) (Q::M) wE):=aQ;obtain ⟨n0,n1,n2,n3,n4,nf⟩:=zr pN;have a8:=ze n0;have bh:=ze n1;have bc:=ze n2;have bl:=ze n3;have bd:=ze n4;have af:Hid (wE.heap[N]?=some (.cells #[.int .i64 a2,.string U,.int .i64 V,.slice p2 q2 T,.int .i64 (e.line:Int)] 90 (0,0))):=pN;have Z:Hid (wE.heap[w.heap.size]?=some zA):=pz
       have cb:∀W:World,zb r wE W→zc r g (o2+5) (z-1) (Q::M) W→Calls Tryz.prog 171 #[.pointer (some ⟨r,0,none⟩)] W fun e w'=>zb r W w'∧if Q.k=1 then e=.returned (.string (za Q.s))∧zc r g (o2+5+5) (z-1-1) M w' else e=Ze Q.at0:=fun W hK hR =>
        xj r g _ _ Q M W hR (fun hk=>(Y.tail (by omega)).ne)
       simp only [yF,zD,List.tail_cons] at K;clear pN pz ap aQ ag an aF ad aI al
       by_cases h3:Q.k=1
       ·rw [if_pos h3] at K
        have aP:=Y.tail (by omega:Q.k≠0)
        have ah:M.length<z6 r wr:=by rw [av];simp only [List.length_cons];omega
        have HT:Hid (zk f3 (.mk 9 Q.s 0 [e] e.line) M=some res):=K
        have H:∀W:World,zb r wE W→zc r g (o2+5) (z-1) (Q::M) W→Calls Tryz.prog 171 #[.pointer (some ⟨r,0,none⟩)] W fun e' w'=>e'=.returned (.string (za Q.s))∧w'.heap[N]?=some (.cells #[.int .i64 a2,.string U,.int .i64 V,.slice p2 q2 T,.int .i64 (e.line:Int)] 90 (0,0))∧W.heap.size≤w'.heap.size∧Hid (zb r W w'∧zc r g (o2+5+5) (z-1-1) M w'):=fun W hK hR=>(cb W hK hR).mono fun e' w' h=>by
         obtain ⟨G,y⟩:=h;rw [if_pos h3] at y;obtain ⟨rfl,aa⟩:=y;exact ⟨rfl,(G.block N (Nat.lt_of_lt_of_le I hK.size) (by omega)).trans ((hK.block N I (by omega)).trans af.out),G.size,G,aa⟩
        clear cb K;go_wp2_with fail
        go_region_with (go_at_call 171;refine (H _ (by first | exact zb.drew r wE | exact ((zb.refl r wE).alloc _).trans (zb.drew _ _)) (by first | exact ao.out.keep rfl rfl | exact (ao.out.alloc _).keep rfl rfl)).mono ?_;rintro e' w7 ⟨rfl,p7,bD,H7⟩;have aT:N<w7.heap.size:=(Array.getElem?_eq_some_iff.1 p7).1;have aq:=(fun ob=>(Below.heap_alloc w7 ob N aT).trans p7);obtain ⟨m0,m1,m2,m3,m4,mf⟩:=zr p7;have aE:=ze m0;have aH:=ze m1;have aN:=ze m2;have aD:=ze m3;have aJ:=ze m4;have aL:=(fun ob j=>(zr (aq ob)).2.2.2.2.2 j))
        all_goals (obtain ⟨ak,A⟩:=H7.out)
        all_goals first
         | (have ab:zb r wE w7:=(zb.drew r wE).trans ak
            obtain ⟨W,hW⟩:∃W,W=(set5 w7 N (.int .i64 9) (.string (za Q.s)) (.int .i64 0) (.slice (some ⟨w7.heap.size,0,none⟩) 1 1) (.int .i64 (e.line:Int))).alloc (.cells #[.int .i64 a2,.string U,.int .i64 V,.slice p2 q2 T,.int .i64 (e.line:Int)] 90):=⟨_,rfl⟩;obtain ⟨hJ,E⟩:=zG.one (p:=fun f e ts=>zk f e ts) 9 Q.s hr aK ar I R.out J.out X.out ab p7 Z.out A a0 HT.out aP A.few (.int .i64 9) rfl W hW
            have ax:Hid (zG r g N F w res (fun f e ts=>zk f e ts) W∧z6 r W<z6 r wr):=show _∧_<_ from ⟨hJ,by rw [E];exact ah⟩
            change Exit.inBlock _ _ _ _ ((set5 w7 N (.int .i64 9) (.string (za Q.s)) (.int .i64 0) (.slice (some ⟨w7.heap.size,0,none⟩) 1 1) (.int .i64 (e.line:Int))).alloc (.cells #[.int .i64 a2,.string U,.int .i64 V,.slice p2 q2 T,.int .i64 (e.line:Int)] 90))
            rw [←hW];clear hW hJ E A ab ak p7 aq m0 m1 m2 m3 m4 mf aE aH aN aD aJ aL n0 n1 n2 n3 n4 nf a8 bh bc bl bd H H7 af Z HT X D R J S ah aP Y ao;go_wp2
            exact ax.out)
         | (have ab:zb r (wE.alloc (.cells #[.int .i64 a2,.string U,.int .i64 V,.slice p2 q2 T,.int .i64 (e.line:Int)] 90)) w7:=(zb.drew r (wE.alloc (.cells #[.int .i64 a2,.string U,.int .i64 V,.slice p2 q2 T,.int .i64 (e.line:Int)] 90))).trans ak
            obtain ⟨W,hW⟩:∃W,W=set5 w7 N (.int .i64 9) (.string (za Q.s)) (.int .i64 0) (.slice (some ⟨wE.heap.size,0,none⟩) 1 1) (.int .i64 (e.line:Int)):=⟨_,rfl⟩;obtain ⟨hJ,E⟩:=zG.one' (p:=fun f e ts=>zk f e ts) 9 Q.s hr aK ar I R.out J.out X.out ab p7 Z.out A a0 HT.out aP (.int .i64 9) rfl W hW
            have ax:Hid (zG r g N F w res (fun f e ts=>zk f e ts) W∧z6 r W<z6 r wr):=show _∧_<_ from ⟨hJ,by rw [E];exact ah⟩
            change Exit.inBlock _ _ _ _ (set5 w7 N (.int .i64 9) (.string (za Q.s)) (.int .i64 0) (.slice (some ⟨wE.heap.size,0,none⟩) 1 1) (.int .i64 (e.line:Int)))
            rw [←hW];clear hW hJ E A ab ak p7 aq m0 m1 m2 m3 m4 mf aE aH aN aD aJ aL n0 n1 n2 n3 n4 nf a8 bh bc bl bd H H7 af Z HT X D R J S ah aP Y ao;go_wp2
            exact ax.out)
       ·rw [if_neg h3] at K
        simp only [zm,Option.some.injEq] at K;subst K
        have H:∀W:World,zb r wE W→zc r g (o2+5) (z-1) (Q::M) W→Calls Tryz.prog 171 #[.pointer (some ⟨r,0,none⟩)] W fun e w'=>e=Ze Q.at0∧zb r w w':=fun W hK hR=>(cb W hK hR).mono fun e w' h=>by
         obtain ⟨G,y⟩:=h;rw [if_neg h3] at y;exact ⟨y,D.out.trans (hK.trans G)⟩
        clear cb;go_wp2_with fail
        go_region_dies
        all_goals
         go_wp2_with fail
         refine (H _ ?_ ?_).mono ?_
         ·first | exact zb.drew r wE | exact ((zb.refl r wE).alloc _).trans (zb.drew _ _)
         ·first | exact ao.out.keep rfl rfl | exact (ao.out.alloc _).keep rfl rfl
         ·rintro e w4 ⟨rfl,G⟩;exact ⟨rfl,G,rfl⟩
      ·have bp:zn t2 [46]=false:=by simpa using hd
       rw [bp] at cd;rw [if_neg hd] at K;simp only [Option.some.injEq] at K;subst K;go_wp2_with fail
       refine cd.mono ?_;clear cd;rintro e' wC ⟨rfl,bb,bg⟩;obtain ⟨pN,pz,bf⟩:=aI.out wC (aF.out.trans bb) (by simpa using bg)
       obtain ⟨n0,n1,n2,n3,n4,nf⟩:=zr pN;obtain ⟨q0,q1,bx,q3,q4,qf⟩:=zr pz;obtain ⟨z0,z1,z2,z3,z4⟩:=zo pz (.int .i64 a2) (.string U) (.int .i64 V) (.slice p2 q2 T) (.int .i64 (e.line:Int));have br:Hid (zi r g w (.ok (e,t2::L)) (.returned (.agg #[.int .i64 a2,.string U,.int .i64 V,.slice p2 q2 T,.int .i64 (e.line:Int)])) (set5 wC w.heap.size (.int .i64 a2) (.string U) (.int .i64 V) (.slice p2 q2 T) (.int .i64 (e.line:Int)))):=bf;clear aI al R J S bf pN pz bb bg aF ad;go_wp2
       exact bodyPost_ret (v:=.agg #[.int .i64 a2,.string U,.int .i64 V,.slice p2 q2 T,.int .i64 (e.line:Int)]) (by simp [results,Tryz.results147,go_sem,z0,z1,z2,z3,z4]) rfl br.out
end Go.Proofs.YtmbofhpmockmbaaGreatDoor
