import Derived.Test.YtmbofhpmockmbaaGreatDoorMC32
import Derived.Test.YtmbofhpmockmbaaGreatDoorSSingle3
import Derived.Deep.RegionWith
import Derived.Deep.DeepCutAuto
import Derived.Deep.CutRange
namespace Go.Proofs.YtmbofhpmockmbaaGreatDoor
open Go.RowKit Go.Shelf
set_option maxHeartbeats 16000000
set_option maxRecDepth 100000
def xF (f:Nat) (e:Ex) (ts:List Tk):Option (PR Ex):=zp (Zr [93] ts) fun _ ts=>zn f e ts
theorem UW (r g o cap F:Nat) (ts:List Tk) (w:World) (res:PR Ex) (h:zc r g o cap ts w) (hE:zk ts) (hp:zp (zx F ts) (fun e ts=>zn F e ts)=some res)
  (hsg:∀w1 o1 O ts1 r1,zx F ts1=some r1→zk ts1→zc r g o1 O ts1 w1→zb r w w1→Calls Tryz.prog 168 #[.pointer (some ⟨r,0,none⟩)] w1 (zl r g w1 r1))
  (hex:∀w1 o1 O ts1 r1,zd F 1 ts1=some r1→zk ts1→zc r g o1 O ts1 w1→zb r w w1→Calls Tryz.prog 74 #[.pointer (some ⟨r,0,none⟩)] w1 (zl r g w1 r1)) :
  Calls Tryz.prog 147 #[.pointer (some ⟨r,0,none⟩)] w (zl r g w res):=by
 obtain ⟨t0,bi,rfl⟩:=hE.cons;have hr:=h.lt.1;have aI:=h.lt.2;cases hb:zx F (t0::bi) with
 | none=>rw [hb] at hp;cases hp
 | some r1 =>
  obtain ⟨w0,aL⟩:∃w0,w0=w.alloc zE:=⟨_,rfl⟩;have c1:=hsg w0 o cap (t0::bi) r1 hb hE (by rw [aL];exact h.alloc _) (by rw [aL];exact (zb.refl r w).alloc _)
  rw [hb] at hp;simp only [zp] at hp;have az:Hid (w0=w.alloc zE):=aL;have am:Hid (∀w1 o1 O ts1 r1,zd F 1 ts1=some r1→zk ts1→zc r g o1 O ts1 w1→zb r w w1→Calls Tryz.prog 74 #[.pointer (some ⟨r,0,none⟩)] w1 (zl r g w1 r1)):=hex;clear aL hex hsg
  go_enter Tryz.func147,Tryz.ntmps147
  go_wp2_with fail
  rw [←az.out];refine c1.mono ?_;clear c1;rintro e w1 ⟨aH,z⟩;have bb:zb r w w1:=by have:=az.out;subst this;exact ((zb.refl r w).alloc _).trans aH
  rcases r1 with a | ⟨x,us⟩
  ·obtain rfl:=z
   simp only [Option.some.injEq] at hp;subst hp;exact ⟨rfl,bb,rfl⟩
  ·obtain ⟨v,o1,O,rfl,hx,Y⟩:=z
   obtain ⟨a,b,c,d0,d1,d2,l,rfl⟩:=hx.agg;have bo:=(Zd F).2.2.2.2.1 _ _ _ hb hE;have hJ:=zP.start (p:=fun f e ts=>zn f e ts) (res:=res) az.out hr aH hx Y hp bo Y.few
   have HJ:Hid (zP r g w1.heap.size F w res (fun f e ts=>zn f e ts) (w1.alloc (.cells #[.int .i64 a,.string b,.int .i64 c,.slice d0 d1 d2,.int .i64 l] 90))):=hJ
   have av:w.heap.size<w1.heap.size:=by have:=aH.size;have h2:=az.out;subst h2;simp at this;omega
   obtain ⟨N,a1⟩:∃N,N=w1.heap.size:=⟨_,rfl⟩;rw [←a1] at HJ av;clear hJ hx Y aH bo hp hb hE h bb az;go_wp2_with fail
   rw [←a1];generalize hW0:w1.alloc (.cells #[.int .i64 a,.string b,.int .i64 c,.slice d0 d1 d2,.int .i64 l] 90)=W0 at *;clear hW0 a1
   go_loopw [7] (fun _ wr=>zP r g N F w res (fun f e ts=>zn f e ts) wr) (fun _ wr=>Zm r wr)
   case atStart=>exact HJ.out
   case round =>
    obtain ⟨e,bD,o2,y,f2,a2,V,U,p2,T,R,l2,bB,K,aC,bC,ap,aG,ay,aY,aO⟩:=hrel;obtain ⟨t2,M,rfl⟩:=aC.cons;obtain rfl:l2=(e.line:Int):=aG.line_eq;clear HJ;have cs:=Zi r g o2 y t2 M [91] wr ay (fun hi=>(aC.tail (zi hi)).ne)
    have aw:=ay.left
    have aR:Hid (∀W,zb r wr W→zc r g o2 y (t2::M) W→W.heap[N]?=some (.cells #[.int .i64 a2,.string V,.int .i64 U,.slice p2 T R,.int .i64 (e.line:Int)] 90 (0,0))∧W.heap[w.heap.size]?=some zE ∧
     zl r g w (.ok (e,t2::M)) (.returned (.agg #[.int .i64 a2,.string V,.int .i64 U,.slice p2 T R,.int .i64 (e.line:Int)])) (set5 W w.heap.size (.int .i64 a2) (.string V) (.int .i64 U) (.slice p2 T R) (.int .i64 (e.line:Int)))) :=
     fun W hK Y=>zP.leave hr aI av aY ap aO aG hK Y
    have ae:Hid (∀W,zb r wr W→W.heap[N]?=some (.cells #[.int .i64 a2,.string V,.int .i64 U,.slice p2 T R,.int .i64 (e.line:Int)] 90 (0,0))∧W.heap[w.heap.size]?=some zE) :=
     fun W hK=>⟨(hK.block _ (Array.getElem?_eq_some_iff.1 ap).1 (by omega)).trans ap,(hK.block _ (Array.getElem?_eq_some_iff.1 aO).1 (by omega)).trans aO⟩
    have X:Hid (zC (fun k=>w.heap.size<k∧k≠N) wr e (.agg #[.int .i64 a2,.string V,.int .i64 U,.slice p2 T R,.int .i64 (e.line:Int)])):=aG
    have I:Hid (zb r w wr):=aY;have Z:Hid (zk (t2::M)):=aC;cases f2 with
    | zero=>simp [zn] at K
    | succ f3 =>
     have a4:f3≤F:=by omega
     simp only [zn,zH,List.tail_cons] at K;clear aG aY ay aC ap aO
     by_cases hi:zq t2 [91]=true
     ·rw [hi] at cs
      rw [if_pos hi] at K;have ab:=Z.out.tail (zi hi);go_wp2_with fail
      refine cs.mono ?_;clear cs;rintro e' wE ⟨rfl,aj,au⟩;simp only [if_true] at au;obtain ⟨pN,pz⟩:=ae.out wE aj;have ad:Hid (zb r wr wE):=aj;have D:Hid (zb r w wE):=I.out.trans aj;have J:N<wE.heap.size:=(Array.getElem?_eq_some_iff.1 pN).1;cases hb3:zd f3 1 M with
      | none=>rw [hb3] at K;cases K
      | some r3 =>
       rw [hb3] at K;simp only [zp] at K
       have aZ:zd F 1 M=some r3:=by
        have:=Z2 (k:=F-f3) hb3
        rwa [show f3+(F-f3)=F by omega] at this
       have cb:∀W:World,W.heap=wE.heap→W.os=wE.os→W.tape=wE.tape→W.output=wE.output→Calls Tryz.prog 74 #[.pointer (some ⟨r,0,none⟩)] W fun e w'=>zb r wE w'∧zl r g W r3 e w':=fun W e1 e2 e3 e4 =>
        (am.out W _ _ M r3 aZ ab (au.keep (by rw [e1]) (by rw [e1])) ⟨e2.trans D.out.os,e3.trans D.out.tape,e4.trans D.out.output,by rw [e1];exact D.out.size,fun k hk hr=>by rw [e1];exact D.out.block k hk hr⟩).mono fun e w' h =>
         ⟨⟨h.1.os.trans e2,h.1.tape.trans e3,h.1.output.trans e4,by rw [←e1];exact h.1.size,fun k hk hr=>by rw [←e1];exact h.1.block k (by rw [e1];exact hk) hr⟩,h⟩
       obtain ⟨n0,n1,n2,n3,n4,nf⟩:=zv pN;have ag:Hid (wE.heap[N]?=some (.cells #[.int .i64 a2,.string V,.int .i64 U,.slice p2 T R,.int .i64 (e.line:Int)] 90 (0,0))):=pN;have aa:Hid (wE.heap[w.heap.size]?=some zE):=pz;clear pN pz au aj am ae aR;rcases r3 with a3 | ⟨x3,aX⟩
       ·simp only [Option.some.injEq] at K
        subst K;have G:∀W:World,W.heap=wE.heap→W.os=wE.os→W.tape=wE.tape→W.output=wE.output→Calls Tryz.prog 74 #[.pointer (some ⟨r,0,none⟩)] W fun e w'=>e=Zv a3∧zb r w w':=fun W e1 e2 e3 e4=>(cb W e1 e2 e3 e4).mono fun e w' h=>⟨h.2.2,D.out.trans h.1⟩
        clear cb;go_wp2_with fail
        go_region_dies
        all_goals (go_wp2_with fail;refine (G _ (by rfl) (by rfl) (by rfl) (by rfl)).mono ?_;rintro e w4 ⟨rfl,H⟩;exact ⟨rfl,H,rfl⟩)
       ·have bn:=(Zd F).1 _ _ _ _ aZ ab
        have bv:=ZM aZ;have ai:aX.length<Zm r wr:=by rw [aw];simp only [List.length_cons];omega
        have HT:Hid (xF f3 (.mk 8 [] 0 [e,x3] e.line) aX=some res):=K
        have G:∀W:World,W.heap=wE.heap→W.os=wE.os→W.tape=wE.tape→W.output=wE.output→Calls Tryz.prog 74 #[.pointer (some ⟨r,0,none⟩)] W fun e' w'=>∃(a3:Int) (b3:ByteArray) (c3:Int) (u0:Option Addr) (u1 u2:Nat) (l3:Int),e'=.returned (.agg #[.int .i64 a3,.string b3,.int .i64 c3,.slice u0 u1 u2,.int .i64 l3]) ∧
          w'.heap[N]?=some (.cells #[.int .i64 a2,.string V,.int .i64 U,.slice p2 T R,.int .i64 (e.line:Int)] 90 (0,0))∧Hid (zb r wE w'∧zX wE.heap.size w' x3 (.agg #[.int .i64 a3,.string b3,.int .i64 c3,.slice u0 u1 u2,.int .i64 l3])∧∃o cap,zc r g o cap aX w'):=fun W e1 e2 e3 e4=>(cb W e1 e2 e3 e4).mono fun e' w' h=>by
         obtain ⟨H,-,v,o4,bd,rfl,hx,Y⟩:=h;obtain ⟨a3,b3,c3,u0,u1,u2,l3,rfl⟩:=hx.agg;exact ⟨a3,b3,c3,u0,u1,u2,l3,rfl,(H.block N J (by omega)).trans ag.out,H,(by rw [←e1];exact hx:zX wE.heap.size w' x3 _),o4,bd,Y⟩
        clear cb K;go_wp2_with fail
        go_cut [] from 6 to 28 (fun wx=>zP r g N F w res xF wx∧Zm r wx<Zm r wr)
        case first =>
         go_region_with (go_at_call 74;refine (G _ (by rfl) (by rfl) (by rfl) (by rfl)).mono ?_;rintro e' w7 ⟨a3,b3,c3,u0,u1,u2,l3,rfl,p7,H7⟩;have aV:N<w7.heap.size:=(Array.getElem?_eq_some_iff.1 p7).1;have aq:=(fun ob=>(Below.heap_alloc w7 ob N aV).trans p7);obtain ⟨m0,m1,m2,m3,m4,mf⟩:=zv p7;have aF:=zg m0;have aE:=zg m1;have aD:=zg m2;have aJ:=zg m3;have aB:=zg m4;have aA:=(fun ob j=>(zv (aq ob)).2.2.2.2.2 j))
         all_goals
          obtain ⟨ah,bm,o7,bx,A⟩:=H7.out;obtain ⟨W,hW⟩:∃W,W=(set5 w7 N (.int .i64 8) (.string ⟨#[]⟩) (.int .i64 0) (.slice (some ⟨w7.heap.size,0,none⟩) 2 2) (.int .i64 (e.line:Int))).alloc (.cells #[.int .i64 a2,.string V,.int .i64 U,.slice p2 T R,.int .i64 (e.line:Int),.int .i64 a3,.string b3,.int .i64 c3,.slice u0 u1 u2,.int .i64 l3] 90):=⟨_,rfl⟩;obtain ⟨hJ,E⟩:=zP.two (p:=xF) 8 [] hr aI av J X.out I.out ad.out ah p7 aa.out bm A a4 HT.out bn A.few (.int .i64 8) rfl W hW;have ax:Hid (zP r g N F w res xF W∧Zm r W<Zm r wr):=show _∧_<_ from ⟨hJ,by rw [E];exact ai⟩
          change Exit.then _ _ _ _ ((set5 w7 N (.int .i64 8) (.string ⟨#[]⟩) (.int .i64 0) (.slice (some ⟨w7.heap.size,0,none⟩) 2 2) (.int .i64 (e.line:Int))).alloc (.cells #[.int .i64 a2,.string V,.int .i64 U,.slice p2 T R,.int .i64 (e.line:Int),.int .i64 a3,.string b3,.int .i64 c3,.slice u0 u1 u2,.int .i64 l3] 90))
          rw [←hW];clear hW hJ E A bm ah p7 aq m0 m1 m2 m3 m4 mf aF aE aD aJ aB aA n0 n1 n2 n3 n4 nf G H7 ag aa HT ad D X I Z bv ai bn ab;go_wp2_with fail
          go_meet
          exact ax.out
        case rest =>
         obtain ⟨⟨e5,bG,o5,aU,f5,a5,b5,c5,p5,q5,s5,l5,bw,af,a6,bA,ak,a0,an,aP,aW⟩,bz⟩:=hcut;obtain ⟨t5,bl,rfl⟩:=a6.cons;have cn:=YO r g o5 aU t5 bl [93] wc an (fun hi=>(a6.tail (zi hi)).ne)
         have aN:=an.left
         unfold xF Zr at af
         simp only [zH,List.tail_cons] at af
         by_cases hm:zq t5 [93]=true
         ·simp only [if_pos hm] at cn
          rw [if_pos hm] at af
          have be:Hid (∀W,zb r wc W→zc r g (o5+5) (aU-1) bl W→zP r g N F w res (fun f e ts=>zn f e ts) W∧Zm r W<Zm r wr):=fun W hK hR =>
           ⟨zP.moved (p:=fun f e ts=>zn f e ts) hr av ak a0 aP aW hK hR bw af (a6.tail (zi hm)),by rw [hR.left];simp only [List.length_cons] at aN;omega⟩
          clear af ak a0 an aP aW G HT X I Z ad D ag aa n0 n1 n2 n3 n4 nf;go_wp2_with fail
          refine cn.mono ?_;clear cn;rintro e9 w9 ⟨aM,rfl,a9⟩;have br:Hid (zP r g N F w res (fun f e ts=>zn f e ts) w9∧Zm r w9<Zm r wr):=be.out w9 aM a9
          clear be aM a9;go_wp2
          exact br.out
         ·simp only [if_neg hm] at cn
          rw [if_neg hm] at af;simp only [zp,Option.some.injEq] at af;subst af;have bs:Hid (zb r w wc):=aP;clear ak a0 an aP aW G HT X I Z ad D ag aa n0 n1 n2 n3 n4 nf;go_wp2_with fail
          refine cn.mono ?_;clear cn;rintro e9 w9 ⟨aM,rfl⟩;exact ⟨rfl,bs.out.trans aM,rfl⟩
     ·have bq:zq t2 [91]=false:=by simpa using hi
      rw [bq] at cs;rw [if_neg hi] at K;go_wp2_with fail
      refine cs.mono ?_;clear cs;rintro e' wB ⟨rfl,bk,bc⟩;have aT:zc r g o2 y (t2::M) wB:=by simpa using bc
      have cd:=Zi r g o2 y t2 M [46] wB aT (fun hi=>(Z.out.tail (zi hi)).ne)
      have aK:Hid (zb r wr wB):=bk;clear bk bc aT
      by_cases hd:zq t2 [46]=true
      ·rw [hd] at cd
       rw [if_pos hd] at K;have ab:=Z.out.tail (zi hd);obtain ⟨Q,L,rfl⟩:=ab.cons;go_wp2_with fail
       refine cd.mono ?_;clear cd;rintro e' wE ⟨rfl,aj,au⟩;have ao:zb r wr wE:=aK.out.trans aj;have aS:zc r g (o2+5) (y-1) (Q::L) wE:=by simpa using au
       obtain ⟨pN,pz⟩:=ae.out wE ao;have ad:Hid (zb r wr wE):=ao;have D:Hid (zb r w wE):=I.out.trans ao;have J:N<wE.heap.size:=(Array.getElem?_eq_some_iff.1 pN).1;have ar:Hid (zc r g (o2+5) (y-1) (Q::L) wE):=aS;obtain ⟨n0,n1,n2,n3,n4,nf⟩:=zv pN;have ba:=zg n0;have bh:=zg n1;have a7:=zg n2;have bp:=zg n3;have bg:=zg n4;have ag:Hid (wE.heap[N]?=some (.cells #[.int .i64 a2,.string V,.int .i64 U,.slice p2 T R,.int .i64 (e.line:Int)] 90 (0,0))):=pN;have aa:Hid (wE.heap[w.heap.size]?=some zE):=pz
       have cb:∀W:World,zb r wE W→zc r g (o2+5) (y-1) (Q::L) W→Calls Tryz.prog 171 #[.pointer (some ⟨r,0,none⟩)] W fun e w'=>zb r W w'∧if Q.k=1 then e=.returned (.string (za Q.s))∧zc r g (o2+5+5) (y-1-1) L w' else e=Zv Q.at0:=fun W hK hR =>
        XP r g _ _ Q L W hR (fun hk=>(ab.tail (by omega)).ne)
       simp only [YB,zH,List.tail_cons] at K;clear pN pz au aS aj ao aK ae aR am
       by_cases h3:Q.k=1
       ·rw [if_pos h3] at K
        have aQ:=ab.tail (by omega:Q.k≠0)
        have ai:L.length<Zm r wr:=by rw [aw];simp only [List.length_cons];omega
        have HT:Hid (zn f3 (.mk 9 Q.s 0 [e] e.line) L=some res):=K
        have G:∀W:World,zb r wE W→zc r g (o2+5) (y-1) (Q::L) W→Calls Tryz.prog 171 #[.pointer (some ⟨r,0,none⟩)] W fun e' w'=>e'=.returned (.string (za Q.s))∧w'.heap[N]?=some (.cells #[.int .i64 a2,.string V,.int .i64 U,.slice p2 T R,.int .i64 (e.line:Int)] 90 (0,0))∧W.heap.size≤w'.heap.size∧Hid (zb r W w'∧zc r g (o2+5+5) (y-1-1) L w'):=fun W hK hR=>(cb W hK hR).mono fun e' w' h=>by
         obtain ⟨H,z⟩:=h;rw [if_pos h3] at z;obtain ⟨rfl,Y⟩:=z;exact ⟨rfl,(H.block N (Nat.lt_of_lt_of_le J hK.size) (by omega)).trans ((hK.block N J (by omega)).trans ag.out),H.size,H,Y⟩
        clear cb K;go_wp2_with fail
        go_region_with (go_at_call 171;refine (G _ (by first | exact zb.drew r wE | exact ((zb.refl r wE).alloc _).trans (zb.drew _ _)) (by first | exact ar.out.keep rfl rfl | exact (ar.out.alloc _).keep rfl rfl)).mono ?_;rintro e' w7 ⟨rfl,p7,bF,H7⟩;have aV:N<w7.heap.size:=(Array.getElem?_eq_some_iff.1 p7).1;have aq:=(fun ob=>(Below.heap_alloc w7 ob N aV).trans p7);obtain ⟨m0,m1,m2,m3,m4,mf⟩:=zv p7;have aF:=zg m0;have aE:=zg m1;have aD:=zg m2;have aJ:=zg m3;have aB:=zg m4;have aA:=(fun ob j=>(zv (aq ob)).2.2.2.2.2 j))
        all_goals (obtain ⟨al,A⟩:=H7.out)
        all_goals first
         | (have ah:zb r wE w7:=(zb.drew r wE).trans al
            obtain ⟨W,hW⟩:∃W,W=(set5 w7 N (.int .i64 9) (.string (za Q.s)) (.int .i64 0) (.slice (some ⟨w7.heap.size,0,none⟩) 1 1) (.int .i64 (e.line:Int))).alloc (.cells #[.int .i64 a2,.string V,.int .i64 U,.slice p2 T R,.int .i64 (e.line:Int)] 90):=⟨_,rfl⟩;obtain ⟨hJ,E⟩:=zP.one (p:=fun f e ts=>zn f e ts) 9 Q.s hr aI av J X.out I.out ad.out ah p7 aa.out A a4 HT.out aQ A.few (.int .i64 9) rfl W hW
            have ax:Hid (zP r g N F w res (fun f e ts=>zn f e ts) W∧Zm r W<Zm r wr):=show _∧_<_ from ⟨hJ,by rw [E];exact ai⟩
            change Exit.inBlock _ _ _ _ ((set5 w7 N (.int .i64 9) (.string (za Q.s)) (.int .i64 0) (.slice (some ⟨w7.heap.size,0,none⟩) 1 1) (.int .i64 (e.line:Int))).alloc (.cells #[.int .i64 a2,.string V,.int .i64 U,.slice p2 T R,.int .i64 (e.line:Int)] 90))
            rw [←hW];clear hW hJ E A ah al p7 aq m0 m1 m2 m3 m4 mf aF aE aD aJ aB aA n0 n1 n2 n3 n4 nf ba bh a7 bp bg G H7 ag aa HT ad D X I Z ai aQ ab ar;go_wp2
            exact ax.out)
         | (have ah:zb r (wE.alloc (.cells #[.int .i64 a2,.string V,.int .i64 U,.slice p2 T R,.int .i64 (e.line:Int)] 90)) w7:=(zb.drew r (wE.alloc (.cells #[.int .i64 a2,.string V,.int .i64 U,.slice p2 T R,.int .i64 (e.line:Int)] 90))).trans al
            obtain ⟨W,hW⟩:∃W,W=set5 w7 N (.int .i64 9) (.string (za Q.s)) (.int .i64 0) (.slice (some ⟨wE.heap.size,0,none⟩) 1 1) (.int .i64 (e.line:Int)):=⟨_,rfl⟩;obtain ⟨hJ,E⟩:=zP.one' (p:=fun f e ts=>zn f e ts) 9 Q.s hr aI av J X.out I.out ad.out ah p7 aa.out A a4 HT.out aQ (.int .i64 9) rfl W hW
            have ax:Hid (zP r g N F w res (fun f e ts=>zn f e ts) W∧Zm r W<Zm r wr):=show _∧_<_ from ⟨hJ,by rw [E];exact ai⟩
            change Exit.inBlock _ _ _ _ (set5 w7 N (.int .i64 9) (.string (za Q.s)) (.int .i64 0) (.slice (some ⟨wE.heap.size,0,none⟩) 1 1) (.int .i64 (e.line:Int)))
            rw [←hW];clear hW hJ E A ah al p7 aq m0 m1 m2 m3 m4 mf aF aE aD aJ aB aA n0 n1 n2 n3 n4 nf ba bh a7 bp bg G H7 ag aa HT ad D X I Z ai aQ ab ar;go_wp2
            exact ax.out)
       ·rw [if_neg h3] at K
        simp only [zp,Option.some.injEq] at K;subst K
        have G:∀W:World,zb r wE W→zc r g (o2+5) (y-1) (Q::L) W→Calls Tryz.prog 171 #[.pointer (some ⟨r,0,none⟩)] W fun e w'=>e=Zv Q.at0∧zb r w w':=fun W hK hR=>(cb W hK hR).mono fun e w' h=>by
         obtain ⟨H,z⟩:=h;rw [if_neg h3] at z;exact ⟨z,D.out.trans (hK.trans H)⟩
        clear cb;go_wp2_with fail
        go_region_dies
        all_goals
         go_wp2_with fail
         refine (G _ ?_ ?_).mono ?_
         ·first | exact zb.drew r wE | exact ((zb.refl r wE).alloc _).trans (zb.drew _ _)
         ·first | exact ar.out.keep rfl rfl | exact (ar.out.alloc _).keep rfl rfl
         ·rintro e w4 ⟨rfl,H⟩;exact ⟨rfl,H,rfl⟩
      ·have bu:zq t2 [46]=false:=by simpa using hd
       rw [bu] at cd;rw [if_neg hd] at K;simp only [Option.some.injEq] at K;subst K;go_wp2_with fail
       refine cd.mono ?_;clear cd;rintro e' wC ⟨rfl,a8,bj⟩;obtain ⟨pN,pz,bf⟩:=aR.out wC (aK.out.trans a8) (by simpa using bj)
       obtain ⟨n0,n1,n2,n3,n4,nf⟩:=zv pN;obtain ⟨q0,q1,bE,q3,q4,qf⟩:=zv pz;obtain ⟨z0,z1,z2,z3,z4⟩:=zr pz (.int .i64 a2) (.string V) (.int .i64 U) (.slice p2 T R) (.int .i64 (e.line:Int));have bt:Hid (zl r g w (.ok (e,t2::M)) (.returned (.agg #[.int .i64 a2,.string V,.int .i64 U,.slice p2 T R,.int .i64 (e.line:Int)])) (set5 wC w.heap.size (.int .i64 a2) (.string V) (.int .i64 U) (.slice p2 T R) (.int .i64 (e.line:Int)))):=bf;clear aR am X I Z bf pN pz a8 bj aK ae;go_wp2
       exact bodyPost_ret (v:=.agg #[.int .i64 a2,.string V,.int .i64 U,.slice p2 T R,.int .i64 (e.line:Int)]) (by simp [results,Tryz.results147,go_sem,z0,z1,z2,z3,z4]) rfl bt.out
end Go.Proofs.YtmbofhpmockmbaaGreatDoor
