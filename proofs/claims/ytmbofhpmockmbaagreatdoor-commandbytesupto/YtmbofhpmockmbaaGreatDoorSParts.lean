import Derived.Test.YtmbofhpmockmbaaGreatDoorMC28
import Derived.Test.YtmbofhpmockmbaaGreatDoorSSingle3
import Derived.Deep.RegionWith
import Derived.Deep.DeepCutAuto
import Derived.Deep.CutRange
namespace Go.Proofs.YtmbofhpmockmbaaGreatDoor
open Go.RowKit Go.Shelf
set_option maxHeartbeats 16000000
set_option maxRecDepth 100000
def xf (f:Nat) (e:Ex) (ts:List Tk):Option (PR Ex):=zo (Zj [93] ts) fun _ ts=>zm f e ts
theorem Ul (r g o cap F:Nat) (ts:List Tk) (w:World) (res:PR Ex) (h:zc r g o cap ts w) (hE:zj ts) (hp:zo (zw F ts) (fun e ts=>zm F e ts)=some res)
  (hsg:∀w1 o1 Q ts1 r1,zw F ts1=some r1→zj ts1→zc r g o1 Q ts1 w1→zb r w w1→Calls Tryz.prog 168 #[.pointer (some ⟨r,0,none⟩)] w1 (zk r g w1 r1))
  (hex:∀w1 o1 Q ts1 r1,zd F 1 ts1=some r1→zj ts1→zc r g o1 Q ts1 w1→zb r w w1→Calls Tryz.prog 74 #[.pointer (some ⟨r,0,none⟩)] w1 (zk r g w1 r1)) :
  Calls Tryz.prog 147 #[.pointer (some ⟨r,0,none⟩)] w (zk r g w res):=by
 obtain ⟨t0,bl,rfl⟩:=hE.cons;have hr:=h.lt.1;have aO:=h.lt.2;cases hb:zw F (t0::bl) with
 | none=>rw [hb] at hp;cases hp
 | some r1 =>
  obtain ⟨w0,aF⟩:∃w0,w0=w.alloc zD:=⟨_,rfl⟩;have c1:=hsg w0 o cap (t0::bl) r1 hb hE (by rw [aF];exact h.alloc _) (by rw [aF];exact (zb.refl r w).alloc _)
  rw [hb] at hp;simp only [zo] at hp;have ax:Hid (w0=w.alloc zD):=aF;have ak:Hid (∀w1 o1 Q ts1 r1,zd F 1 ts1=some r1→zj ts1→zc r g o1 Q ts1 w1→zb r w w1→Calls Tryz.prog 74 #[.pointer (some ⟨r,0,none⟩)] w1 (zk r g w1 r1)):=hex;clear aF hex hsg
  go_enter Tryz.func147,Tryz.ntmps147
  go_wp2_with fail
  rw [←ax.out];refine c1.mono ?_;clear c1;rintro e w1 ⟨aG,y⟩;have bd:zb r w w1:=by have:=ax.out;subst this;exact ((zb.refl r w).alloc _).trans aG
  rcases r1 with a | ⟨x,us⟩
  ·obtain rfl:=y
   simp only [Option.some.injEq] at hp;subst hp;exact ⟨rfl,bd,rfl⟩
  ·obtain ⟨v,o1,Q,rfl,hx,Z⟩:=y
   obtain ⟨a,b,c,d0,d1,d2,l,rfl⟩:=hx.agg;have ba:=(zX F).2.2.2.2.1 _ _ _ hb hE;have hJ:=zJ.start (p:=fun f e ts=>zm f e ts) (res:=res) ax.out hr aG hx Z hp ba Z.few
   have HJ:Hid (zJ r g w1.heap.size F w res (fun f e ts=>zm f e ts) (w1.alloc (.cells #[.int .i64 a,.string b,.int .i64 c,.slice d0 d1 d2,.int .i64 l] 90))):=hJ
   have au:w.heap.size<w1.heap.size:=by have:=aG.size;have h2:=ax.out;subst h2;simp at this;omega
   obtain ⟨N,aV⟩:∃N,N=w1.heap.size:=⟨_,rfl⟩;rw [←aV] at HJ au;clear hJ hx Z aG ba hp hb hE h bd ax;go_wp2_with fail
   rw [←aV];generalize hW0:w1.alloc (.cells #[.int .i64 a,.string b,.int .i64 c,.slice d0 d1 d2,.int .i64 l] 90)=W0 at *;clear hW0 aV
   go_loopw [7] (fun _ wr=>zJ r g N F w res (fun f e ts=>zm f e ts) wr) (fun _ wr=>Ze r wr)
   case atStart=>exact HJ.out
   case round =>
    obtain ⟨e,bF,o2,z,f2,R,b2,c2,Y,q2,V,l2,bB,K,aD,bC,al,aL,av,a4,aC⟩:=hrel;obtain ⟨t2,M,rfl⟩:=aD.cons;obtain rfl:l2=(e.line:Int):=aL.line_eq;clear HJ;have cs:=Zb r g o2 z t2 M [91] wr av (fun hi=>(aD.tail (zf hi)).ne)
    have aw:=av.left
    have aB:Hid (∀W,zb r wr W→zc r g o2 z (t2::M) W→W.heap[N]?=some (.cells #[.int .i64 R,.string b2,.int .i64 c2,.slice Y q2 V,.int .i64 (e.line:Int)] 90 (0,0))∧W.heap[w.heap.size]?=some zD ∧
     zk r g w (.ok (e,t2::M)) (.returned (.agg #[.int .i64 R,.string b2,.int .i64 c2,.slice Y q2 V,.int .i64 (e.line:Int)])) (set5 W w.heap.size (.int .i64 R) (.string b2) (.int .i64 c2) (.slice Y q2 V) (.int .i64 (e.line:Int)))) :=
     fun W hK Z=>zJ.leave hr aO au a4 al aC aL hK Z
    have af:Hid (∀W,zb r wr W→W.heap[N]?=some (.cells #[.int .i64 R,.string b2,.int .i64 c2,.slice Y q2 V,.int .i64 (e.line:Int)] 90 (0,0))∧W.heap[w.heap.size]?=some zD) :=
     fun W hK=>⟨(hK.block _ (Array.getElem?_eq_some_iff.1 al).1 (by omega)).trans al,(hK.block _ (Array.getElem?_eq_some_iff.1 aC).1 (by omega)).trans aC⟩
    have U:Hid (zB (fun k=>w.heap.size<k∧k≠N) wr e (.agg #[.int .i64 R,.string b2,.int .i64 c2,.slice Y q2 V,.int .i64 (e.line:Int)])):=aL
    have I:Hid (zb r w wr):=a4;have aa:Hid (zj (t2::M)):=aD;cases f2 with
    | zero=>simp [zm] at K
    | succ f3 =>
     have a0:f3≤F:=by omega
     simp only [zm,zG,List.tail_cons] at K;clear aL a4 av aD al aC
     by_cases hi:zp t2 [91]=true
     ·rw [hi] at cs
      rw [if_pos hi] at K;have T:=aa.out.tail (zf hi);go_wp2_with fail
      refine cs.mono ?_;clear cs;rintro e' wE ⟨rfl,aj,ar⟩;simp only [if_true] at ar;obtain ⟨pN,pz⟩:=af.out wE aj;have ab:Hid (zb r wr wE):=aj;have D:Hid (zb r w wE):=I.out.trans aj;have J:N<wE.heap.size:=(Array.getElem?_eq_some_iff.1 pN).1;cases hb3:zd f3 1 M with
      | none=>rw [hb3] at K;cases K
      | some r3 =>
       rw [hb3] at K;simp only [zo] at K
       have aU:zd F 1 M=some r3:=by
        have:=ZS (k:=F-f3) hb3
        rwa [show f3+(F-f3)=F by omega] at this
       have cb:∀W:World,W.heap=wE.heap→W.os=wE.os→W.tape=wE.tape→W.output=wE.output→Calls Tryz.prog 74 #[.pointer (some ⟨r,0,none⟩)] W fun e w'=>zb r wE w'∧zk r g W r3 e w':=fun W e1 e2 e3 e4 =>
        (ak.out W _ _ M r3 aU T (ar.keep (by rw [e1]) (by rw [e1])) ⟨e2.trans D.out.os,e3.trans D.out.tape,e4.trans D.out.output,by rw [e1];exact D.out.size,fun k hk hr=>by rw [e1];exact D.out.block k hk hr⟩).mono fun e w' h =>
         ⟨⟨h.1.os.trans e2,h.1.tape.trans e3,h.1.output.trans e4,by rw [←e1];exact h.1.size,fun k hk hr=>by rw [←e1];exact h.1.block k (by rw [e1];exact hk) hr⟩,h⟩
       obtain ⟨n0,n1,n2,n3,n4,nf⟩:=zt pN;have ag:Hid (wE.heap[N]?=some (.cells #[.int .i64 R,.string b2,.int .i64 c2,.slice Y q2 V,.int .i64 (e.line:Int)] 90 (0,0))):=pN;have X:Hid (wE.heap[w.heap.size]?=some zD):=pz;clear pN pz ar aj ak af aB;rcases r3 with a3 | ⟨x3,aX⟩
       ·simp only [Option.some.injEq] at K
        subst K;have G:∀W:World,W.heap=wE.heap→W.os=wE.os→W.tape=wE.tape→W.output=wE.output→Calls Tryz.prog 74 #[.pointer (some ⟨r,0,none⟩)] W fun e w'=>e=Zn a3∧zb r w w':=fun W e1 e2 e3 e4=>(cb W e1 e2 e3 e4).mono fun e w' h=>⟨h.2.2,D.out.trans h.1⟩
        clear cb;go_wp2_with fail
        go_region_dies
        all_goals (go_wp2_with fail;refine (G _ (by rfl) (by rfl) (by rfl) (by rfl)).mono ?_;rintro e w4 ⟨rfl,H⟩;exact ⟨rfl,H,rfl⟩)
       ·have bg:=(zX F).1 _ _ _ _ aU T
        have bu:=ZD aU;have ai:aX.length<Ze r wr:=by rw [aw];simp only [List.length_cons];omega
        have HT:Hid (xf f3 (.mk 8 [] 0 [e,x3] e.line) aX=some res):=K
        have G:∀W:World,W.heap=wE.heap→W.os=wE.os→W.tape=wE.tape→W.output=wE.output→Calls Tryz.prog 74 #[.pointer (some ⟨r,0,none⟩)] W fun e' w'=>∃(a3:Int) (b3:ByteArray) (c3:Int) (u0:Option Addr) (u1 u2:Nat) (l3:Int),e'=.returned (.agg #[.int .i64 a3,.string b3,.int .i64 c3,.slice u0 u1 u2,.int .i64 l3]) ∧
          w'.heap[N]?=some (.cells #[.int .i64 R,.string b2,.int .i64 c2,.slice Y q2 V,.int .i64 (e.line:Int)] 90 (0,0))∧Hid (zb r wE w'∧zQ wE.heap.size w' x3 (.agg #[.int .i64 a3,.string b3,.int .i64 c3,.slice u0 u1 u2,.int .i64 l3])∧∃o cap,zc r g o cap aX w'):=fun W e1 e2 e3 e4=>(cb W e1 e2 e3 e4).mono fun e' w' h=>by
         obtain ⟨H,-,v,o4,bc,rfl,hx,Z⟩:=h;obtain ⟨a3,b3,c3,u0,u1,u2,l3,rfl⟩:=hx.agg;exact ⟨a3,b3,c3,u0,u1,u2,l3,rfl,(H.block N J (by omega)).trans ag.out,H,(by rw [←e1];exact hx:zQ wE.heap.size w' x3 _),o4,bc,Z⟩
        clear cb K;go_wp2_with fail
        go_cut [] from 6 to 28 (fun wx=>zJ r g N F w res xf wx∧Ze r wx<Ze r wr)
        case first =>
         go_region_with (go_at_call 74;refine (G _ (by rfl) (by rfl) (by rfl) (by rfl)).mono ?_;rintro e' w7 ⟨a3,b3,c3,u0,u1,u2,l3,rfl,p7,H7⟩;have aW:N<w7.heap.size:=(Array.getElem?_eq_some_iff.1 p7).1;have aq:=(fun ob=>(Below.heap_alloc w7 ob N aW).trans p7);obtain ⟨m0,m1,m2,m3,m4,mf⟩:=zt p7;have aI:=ze m0;have aK:=ze m1;have aJ:=ze m2;have aM:=ze m3;have az:=ze m4;have aA:=(fun ob j=>(zt (aq ob)).2.2.2.2.2 j))
         all_goals
          obtain ⟨ae,be,o7,bw,A⟩:=H7.out;obtain ⟨W,hW⟩:∃W,W=(set5 w7 N (.int .i64 8) (.string ⟨#[]⟩) (.int .i64 0) (.slice (some ⟨w7.heap.size,0,none⟩) 2 2) (.int .i64 (e.line:Int))).alloc (.cells #[.int .i64 R,.string b2,.int .i64 c2,.slice Y q2 V,.int .i64 (e.line:Int),.int .i64 a3,.string b3,.int .i64 c3,.slice u0 u1 u2,.int .i64 l3] 90):=⟨_,rfl⟩;obtain ⟨hJ,E⟩:=zJ.two (p:=xf) 8 [] hr aO au J U.out I.out ab.out ae p7 X.out be A a0 HT.out bg A.few (.int .i64 8) rfl W hW;have ay:Hid (zJ r g N F w res xf W∧Ze r W<Ze r wr):=show _∧_<_ from ⟨hJ,by rw [E];exact ai⟩
          change Exit.then _ _ _ _ ((set5 w7 N (.int .i64 8) (.string ⟨#[]⟩) (.int .i64 0) (.slice (some ⟨w7.heap.size,0,none⟩) 2 2) (.int .i64 (e.line:Int))).alloc (.cells #[.int .i64 R,.string b2,.int .i64 c2,.slice Y q2 V,.int .i64 (e.line:Int),.int .i64 a3,.string b3,.int .i64 c3,.slice u0 u1 u2,.int .i64 l3] 90))
          rw [←hW];clear hW hJ E A be ae p7 aq m0 m1 m2 m3 m4 mf aI aK aJ aM az aA n0 n1 n2 n3 n4 nf G H7 ag X HT ab D U I aa bu ai bg T;go_wp2_with fail
          go_meet
          exact ay.out
        case rest =>
         obtain ⟨⟨e5,bz,o5,aR,f5,a5,b5,c5,p5,q5,s5,l5,bq,ad,aZ,bA,ah,a1,an,aN,aY⟩,bE⟩:=hcut;obtain ⟨t5,a7,rfl⟩:=aZ.cons;have cn:=Yo r g o5 aR t5 a7 [93] wc an (fun hi=>(aZ.tail (zf hi)).ne)
         have aH:=an.left
         unfold xf Zj at ad
         simp only [zG,List.tail_cons] at ad
         by_cases hm:zp t5 [93]=true
         ·simp only [if_pos hm] at cn
          rw [if_pos hm] at ad
          have bk:Hid (∀W,zb r wc W→zc r g (o5+5) (aR-1) a7 W→zJ r g N F w res (fun f e ts=>zm f e ts) W∧Ze r W<Ze r wr):=fun W hK hR =>
           ⟨zJ.moved (p:=fun f e ts=>zm f e ts) hr au ah a1 aN aY hK hR bq ad (aZ.tail (zf hm)),by rw [hR.left];simp only [List.length_cons] at aH;omega⟩
          clear ad ah a1 an aN aY G HT U I aa ab D ag X n0 n1 n2 n3 n4 nf;go_wp2_with fail
          refine cn.mono ?_;clear cn;rintro e9 w9 ⟨aE,rfl,bi⟩;have bp:Hid (zJ r g N F w res (fun f e ts=>zm f e ts) w9∧Ze r w9<Ze r wr):=bk.out w9 aE bi
          clear bk aE bi;go_wp2
          exact bp.out
         ·simp only [if_neg hm] at cn
          rw [if_neg hm] at ad;simp only [zo,Option.some.injEq] at ad;subst ad;have bt:Hid (zb r w wc):=aN;clear ah a1 an aN aY G HT U I aa ab D ag X n0 n1 n2 n3 n4 nf;go_wp2_with fail
          refine cn.mono ?_;clear cn;rintro e9 w9 ⟨aE,rfl⟩;exact ⟨rfl,bt.out.trans aE,rfl⟩
     ·have bs:zp t2 [91]=false:=by simpa using hi
      rw [bs] at cs;rw [if_neg hi] at K;go_wp2_with fail
      refine cs.mono ?_;clear cs;rintro e' wB ⟨rfl,a8,bm⟩;have aT:zc r g o2 z (t2::M) wB:=by simpa using bm
      have cd:=Zb r g o2 z t2 M [46] wB aT (fun hi=>(aa.out.tail (zf hi)).ne)
      have aQ:Hid (zb r wr wB):=a8;clear a8 bm aT
      by_cases hd:zp t2 [46]=true
      ·rw [hd] at cd
       rw [if_pos hd] at K;have T:=aa.out.tail (zf hd);obtain ⟨O,L,rfl⟩:=T.cons;go_wp2_with fail
       refine cd.mono ?_;clear cd;rintro e' wE ⟨rfl,aj,ar⟩;have am:zb r wr wE:=aQ.out.trans aj;have aS:zc r g (o2+5) (z-1) (O::L) wE:=by simpa using ar
       obtain ⟨pN,pz⟩:=af.out wE am;have ab:Hid (zb r wr wE):=am;have D:Hid (zb r w wE):=I.out.trans am;have J:N<wE.heap.size:=(Array.getElem?_eq_some_iff.1 pN).1;have ap:Hid (zc r g (o2+5) (z-1) (O::L) wE):=aS;obtain ⟨n0,n1,n2,n3,n4,nf⟩:=zt pN;have bn:=ze n0;have bj:=ze n1;have bb:=ze n2;have bo:=ze n3;have bh:=ze n4;have ag:Hid (wE.heap[N]?=some (.cells #[.int .i64 R,.string b2,.int .i64 c2,.slice Y q2 V,.int .i64 (e.line:Int)] 90 (0,0))):=pN;have X:Hid (wE.heap[w.heap.size]?=some zD):=pz
       have cb:∀W:World,zb r wE W→zc r g (o2+5) (z-1) (O::L) W→Calls Tryz.prog 171 #[.pointer (some ⟨r,0,none⟩)] W fun e w'=>zb r W w'∧if O.k=1 then e=.returned (.string (za O.s))∧zc r g (o2+5+5) (z-1-1) L w' else e=Zn O.at0:=fun W hK hR =>
        Xh r g _ _ O L W hR (fun hk=>(T.tail (by omega)).ne)
       simp only [Yg,zG,List.tail_cons] at K;clear pN pz ar aS aj am aQ af aB ak
       by_cases h3:O.k=1
       ·rw [if_pos h3] at K
        have aP:=T.tail (by omega:O.k≠0)
        have ai:L.length<Ze r wr:=by rw [aw];simp only [List.length_cons];omega
        have HT:Hid (zm f3 (.mk 9 O.s 0 [e] e.line) L=some res):=K
        have G:∀W:World,zb r wE W→zc r g (o2+5) (z-1) (O::L) W→Calls Tryz.prog 171 #[.pointer (some ⟨r,0,none⟩)] W fun e' w'=>e'=.returned (.string (za O.s))∧w'.heap[N]?=some (.cells #[.int .i64 R,.string b2,.int .i64 c2,.slice Y q2 V,.int .i64 (e.line:Int)] 90 (0,0))∧W.heap.size≤w'.heap.size∧Hid (zb r W w'∧zc r g (o2+5+5) (z-1-1) L w'):=fun W hK hR=>(cb W hK hR).mono fun e' w' h=>by
         obtain ⟨H,y⟩:=h;rw [if_pos h3] at y;obtain ⟨rfl,Z⟩:=y;exact ⟨rfl,(H.block N (Nat.lt_of_lt_of_le J hK.size) (by omega)).trans ((hK.block N J (by omega)).trans ag.out),H.size,H,Z⟩
        clear cb K;go_wp2_with fail
        go_region_with (go_at_call 171;refine (G _ (by first | exact zb.drew r wE | exact ((zb.refl r wE).alloc _).trans (zb.drew _ _)) (by first | exact ap.out.keep rfl rfl | exact (ap.out.alloc _).keep rfl rfl)).mono ?_;rintro e' w7 ⟨rfl,p7,bx,H7⟩;have aW:N<w7.heap.size:=(Array.getElem?_eq_some_iff.1 p7).1;have aq:=(fun ob=>(Below.heap_alloc w7 ob N aW).trans p7);obtain ⟨m0,m1,m2,m3,m4,mf⟩:=zt p7;have aI:=ze m0;have aK:=ze m1;have aJ:=ze m2;have aM:=ze m3;have az:=ze m4;have aA:=(fun ob j=>(zt (aq ob)).2.2.2.2.2 j))
        all_goals (obtain ⟨ao,A⟩:=H7.out)
        all_goals first
         | (have ae:zb r wE w7:=(zb.drew r wE).trans ao
            obtain ⟨W,hW⟩:∃W,W=(set5 w7 N (.int .i64 9) (.string (za O.s)) (.int .i64 0) (.slice (some ⟨w7.heap.size,0,none⟩) 1 1) (.int .i64 (e.line:Int))).alloc (.cells #[.int .i64 R,.string b2,.int .i64 c2,.slice Y q2 V,.int .i64 (e.line:Int)] 90):=⟨_,rfl⟩;obtain ⟨hJ,E⟩:=zJ.one (p:=fun f e ts=>zm f e ts) 9 O.s hr aO au J U.out I.out ab.out ae p7 X.out A a0 HT.out aP A.few (.int .i64 9) rfl W hW
            have ay:Hid (zJ r g N F w res (fun f e ts=>zm f e ts) W∧Ze r W<Ze r wr):=show _∧_<_ from ⟨hJ,by rw [E];exact ai⟩
            change Exit.inBlock _ _ _ _ ((set5 w7 N (.int .i64 9) (.string (za O.s)) (.int .i64 0) (.slice (some ⟨w7.heap.size,0,none⟩) 1 1) (.int .i64 (e.line:Int))).alloc (.cells #[.int .i64 R,.string b2,.int .i64 c2,.slice Y q2 V,.int .i64 (e.line:Int)] 90))
            rw [←hW];clear hW hJ E A ae ao p7 aq m0 m1 m2 m3 m4 mf aI aK aJ aM az aA n0 n1 n2 n3 n4 nf bn bj bb bo bh G H7 ag X HT ab D U I aa ai aP T ap;go_wp2
            exact ay.out)
         | (have ae:zb r (wE.alloc (.cells #[.int .i64 R,.string b2,.int .i64 c2,.slice Y q2 V,.int .i64 (e.line:Int)] 90)) w7:=(zb.drew r (wE.alloc (.cells #[.int .i64 R,.string b2,.int .i64 c2,.slice Y q2 V,.int .i64 (e.line:Int)] 90))).trans ao
            obtain ⟨W,hW⟩:∃W,W=set5 w7 N (.int .i64 9) (.string (za O.s)) (.int .i64 0) (.slice (some ⟨wE.heap.size,0,none⟩) 1 1) (.int .i64 (e.line:Int)):=⟨_,rfl⟩;obtain ⟨hJ,E⟩:=zJ.one' (p:=fun f e ts=>zm f e ts) 9 O.s hr aO au J U.out I.out ab.out ae p7 X.out A a0 HT.out aP (.int .i64 9) rfl W hW
            have ay:Hid (zJ r g N F w res (fun f e ts=>zm f e ts) W∧Ze r W<Ze r wr):=show _∧_<_ from ⟨hJ,by rw [E];exact ai⟩
            change Exit.inBlock _ _ _ _ (set5 w7 N (.int .i64 9) (.string (za O.s)) (.int .i64 0) (.slice (some ⟨wE.heap.size,0,none⟩) 1 1) (.int .i64 (e.line:Int)))
            rw [←hW];clear hW hJ E A ae ao p7 aq m0 m1 m2 m3 m4 mf aI aK aJ aM az aA n0 n1 n2 n3 n4 nf bn bj bb bo bh G H7 ag X HT ab D U I aa ai aP T ap;go_wp2
            exact ay.out)
       ·rw [if_neg h3] at K
        simp only [zo,Option.some.injEq] at K;subst K
        have G:∀W:World,zb r wE W→zc r g (o2+5) (z-1) (O::L) W→Calls Tryz.prog 171 #[.pointer (some ⟨r,0,none⟩)] W fun e w'=>e=Zn O.at0∧zb r w w':=fun W hK hR=>(cb W hK hR).mono fun e w' h=>by
         obtain ⟨H,y⟩:=h;rw [if_neg h3] at y;exact ⟨y,D.out.trans (hK.trans H)⟩
        clear cb;go_wp2_with fail
        go_region_dies
        all_goals
         go_wp2_with fail
         refine (G _ ?_ ?_).mono ?_
         ·first | exact zb.drew r wE | exact ((zb.refl r wE).alloc _).trans (zb.drew _ _)
         ·first | exact ap.out.keep rfl rfl | exact (ap.out.alloc _).keep rfl rfl
         ·rintro e w4 ⟨rfl,H⟩;exact ⟨rfl,H,rfl⟩
      ·have bv:zp t2 [46]=false:=by simpa using hd
       rw [bv] at cd;rw [if_neg hd] at K;simp only [Option.some.injEq] at K;subst K;go_wp2_with fail
       refine cd.mono ?_;clear cd;rintro e' wC ⟨rfl,a6,a9⟩;obtain ⟨pN,pz,bf⟩:=aB.out wC (aQ.out.trans a6) (by simpa using a9)
       obtain ⟨n0,n1,n2,n3,n4,nf⟩:=zt pN;obtain ⟨q0,q1,bD,q3,q4,qf⟩:=zt pz;obtain ⟨z0,z1,z2,z3,z4⟩:=zq pz (.int .i64 R) (.string b2) (.int .i64 c2) (.slice Y q2 V) (.int .i64 (e.line:Int));have br:Hid (zk r g w (.ok (e,t2::M)) (.returned (.agg #[.int .i64 R,.string b2,.int .i64 c2,.slice Y q2 V,.int .i64 (e.line:Int)])) (set5 wC w.heap.size (.int .i64 R) (.string b2) (.int .i64 c2) (.slice Y q2 V) (.int .i64 (e.line:Int)))):=bf;clear aB ak U I aa bf pN pz a6 a9 aQ af;go_wp2
       exact bodyPost_ret (v:=.agg #[.int .i64 R,.string b2,.int .i64 c2,.slice Y q2 V,.int .i64 (e.line:Int)]) (by simp [results,Tryz.results147,go_sem,z0,z1,z2,z3,z4]) rfl br.out
end Go.Proofs.YtmbofhpmockmbaaGreatDoor
