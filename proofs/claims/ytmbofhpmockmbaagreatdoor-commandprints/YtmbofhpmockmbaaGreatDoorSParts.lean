import Derived.Test.YtmbofhpmockmbaaGreatDoorMC19
import Derived.Test.YtmbofhpmockmbaaGreatDoorMC18
import Derived.Deep.RegionWith
import Derived.Deep.DeepCutAuto
import Derived.Deep.CutRange
namespace Go.Proofs.YtmbofhpmockmbaaGreatDoor
open Go.RowKit Go.Shelf
set_option maxHeartbeats 16000000
set_option maxRecDepth 100000
def XC (f:Nat) (e:Ex) (ts:List Tk):Option (PR Ex):=zo (Zg [93] ts) fun _ ts=>zp f e ts
theorem Q0 (r g o cap F:Nat) (ts:List Tk) (w:World) (res:PR Ex) (h:zj r g o cap ts w) (hE:zq ts) (hp:zo (zA F ts) (fun e ts=>zp F e ts)=some res)
  (hsg:∀w1 o1 O ts1 r1,zA F ts1=some r1→zq ts1→zj r g o1 O ts1 w1→zb r w w1→Calls Tryz.prog 168 #[.pointer (some ⟨r,0,none⟩)] w1 (zr r g w1 r1))
  (hex:∀w1 o1 O ts1 r1,zg F 1 ts1=some r1→zq ts1→zj r g o1 O ts1 w1→zb r w w1→Calls Tryz.prog 74 #[.pointer (some ⟨r,0,none⟩)] w1 (zr r g w1 r1)) :
  Calls Tryz.prog 147 #[.pointer (some ⟨r,0,none⟩)] w (zr r g w res):=by
 obtain ⟨t0,be,rfl⟩:=hE.cons;have hr:=h.lt.1;have aH:=h.lt.2;cases hb:zA F (t0::be) with
 | none=>rw [hb] at hp;cases hp
 | some r1 =>
  obtain ⟨w0,aN⟩:∃w0,w0=w.alloc zJ:=⟨_,rfl⟩;have c1:=hsg w0 o cap (t0::be) r1 hb hE (by rw [aN];exact h.alloc _) (by rw [aN];exact (zb.refl r w).alloc _)
  rw [hb] at hp;simp only [zo] at hp;have ay:Hid (w0=w.alloc zJ):=aN;have ao:Hid (∀w1 o1 O ts1 r1,zg F 1 ts1=some r1→zq ts1→zj r g o1 O ts1 w1→zb r w w1→Calls Tryz.prog 74 #[.pointer (some ⟨r,0,none⟩)] w1 (zr r g w1 r1)):=hex;clear aN hex hsg
  go_enter Tryz.func147,Tryz.ntmps147
  go_wp2_with fail
  rw [←ay.out];refine c1.mono ?_;clear c1;rintro e w1 ⟨aD,y⟩;have bj:zb r w w1:=by have:=ay.out;subst this;exact ((zb.refl r w).alloc _).trans aD
  rcases r1 with a | ⟨x,us⟩
  ·obtain rfl:=y
   simp only [Option.some.injEq] at hp;subst hp;exact ⟨rfl,bj,rfl⟩
  ·obtain ⟨v,o1,O,rfl,hx,ad⟩:=y
   obtain ⟨a,b,c,d0,d1,d2,l,rfl⟩:=hx.agg;have bc:=(Zw F).2.2.2.2.1 _ _ _ hb hE;have hJ:=Zh.start (p:=fun f e ts=>zp f e ts) (res:=res) ay.out hr aD hx ad hp bc ad.few
   have HJ:Hid (Zh r g w1.heap.size F w res (fun f e ts=>zp f e ts) (w1.alloc (.cells #[.int .i64 a,.string b,.int .i64 c,.slice d0 d1 d2,.int .i64 l] 90))):=hJ
   have aq:w.heap.size<w1.heap.size:=by have:=aD.size;have h2:=ay.out;subst h2;simp at this;omega
   obtain ⟨N,a6⟩:∃N,N=w1.heap.size:=⟨_,rfl⟩;rw [←a6] at HJ aq;clear hJ hx ad aD bc hp hb hE h bj ay;go_wp2_with fail
   rw [←a6];generalize hW0:w1.alloc (.cells #[.int .i64 a,.string b,.int .i64 c,.slice d0 d1 d2,.int .i64 l] 90)=W0 at *;clear hW0 a6
   go_loopw [7] (fun _ wr=>Zh r g N F w res (fun f e ts=>zp f e ts) wr) (fun _ wr=>ZI r wr)
   case atStart=>exact HJ.out
   case round =>
    obtain ⟨e,bG,o2,z,f2,V,b2,c2,Z,U,Y,l2,bE,J,aQ,bF,ap,aA,aw,a1,aF⟩:=hrel;obtain ⟨t2,L,rfl⟩:=aQ.cons;obtain rfl:l2=(e.line:Int):=aA.line_eq;clear HJ;have cs:=ZA r g o2 z t2 L [91] wr aw (fun hi=>(aQ.tail (zm hi)).ne)
    have az:=aw.left
    have aR:Hid (∀W,zb r wr W→zj r g o2 z (t2::L) W→W.heap[N]?=some (.cells #[.int .i64 V,.string b2,.int .i64 c2,.slice Z U Y,.int .i64 (e.line:Int)] 90 (0,0))∧W.heap[w.heap.size]?=some zJ ∧
     zr r g w (.ok (e,t2::L)) (.returned (.agg #[.int .i64 V,.string b2,.int .i64 c2,.slice Z U Y,.int .i64 (e.line:Int)])) (set5 W w.heap.size (.int .i64 V) (.string b2) (.int .i64 c2) (.slice Z U Y) (.int .i64 (e.line:Int)))) :=
     fun W hK ad=>Zh.leave hr aH aq a1 ap aF aA hK ad
    have af:Hid (∀W,zb r wr W→W.heap[N]?=some (.cells #[.int .i64 V,.string b2,.int .i64 c2,.slice Z U Y,.int .i64 (e.line:Int)] 90 (0,0))∧W.heap[w.heap.size]?=some zJ) :=
     fun W hK=>⟨(hK.block _ (Array.getElem?_eq_some_iff.1 ap).1 (by omega)).trans ap,(hK.block _ (Array.getElem?_eq_some_iff.1 aF).1 (by omega)).trans aF⟩
    have X:Hid (zH (fun k=>w.heap.size<k∧k≠N) wr e (.agg #[.int .i64 V,.string b2,.int .i64 c2,.slice Z U Y,.int .i64 (e.line:Int)])):=aA
    have I:Hid (zb r w wr):=a1;have aa:Hid (zq (t2::L)):=aQ;cases f2 with
    | zero=>simp [zp] at J
    | succ f3 =>
     have a4:f3≤F:=by omega
     simp only [zp,zX,List.tail_cons] at J;clear aA a1 aw aQ ap aF
     by_cases hi:zk t2 [91]=true
     ·rw [hi] at cs
      rw [if_pos hi] at J;have ab:=aa.out.tail (zm hi);go_wp2_with fail
      refine cs.mono ?_;clear cs;rintro e' wE ⟨rfl,aj,av⟩;simp only [if_true] at av;obtain ⟨pN,pz⟩:=af.out wE aj;have T:Hid (zb r wr wE):=aj;have D:Hid (zb r w wE):=I.out.trans aj;have K:N<wE.heap.size:=(Array.getElem?_eq_some_iff.1 pN).1;cases hb3:zg f3 1 L with
      | none=>rw [hb3] at J;cases J
      | some r3 =>
       rw [hb3] at J;simp only [zo] at J
       have aX:zg F 1 L=some r3:=by
        have:=yv (k:=F-f3) hb3
        rwa [show f3+(F-f3)=F by omega] at this
       have cb:∀W:World,W.heap=wE.heap→W.os=wE.os→W.tape=wE.tape→W.output=wE.output→Calls Tryz.prog 74 #[.pointer (some ⟨r,0,none⟩)] W fun e w'=>zb r wE w'∧zr r g W r3 e w':=fun W e1 e2 e3 e4 =>
        (ao.out W _ _ L r3 aX ab (av.keep (by rw [e1]) (by rw [e1])) ⟨e2.trans D.out.os,e3.trans D.out.tape,e4.trans D.out.output,by rw [e1];exact D.out.size,fun k hk hr=>by rw [e1];exact D.out.block k hk hr⟩).mono fun e w' h =>
         ⟨⟨h.1.os.trans e2,h.1.tape.trans e3,h.1.output.trans e4,by rw [←e1];exact h.1.size,fun k hk hr=>by rw [←e1];exact h.1.block k (by rw [e1];exact hk) hr⟩,h⟩
       obtain ⟨n0,n1,n2,n3,n4,nf⟩:=zd pN;have ae:Hid (wE.heap[N]?=some (.cells #[.int .i64 V,.string b2,.int .i64 c2,.slice Z U Y,.int .i64 (e.line:Int)] 90 (0,0))):=pN;have R:Hid (wE.heap[w.heap.size]?=some zJ):=pz;clear pN pz av aj ao af aR;rcases r3 with a3 | ⟨x3,aZ⟩
       ·simp only [Option.some.injEq] at J
        subst J;have G:∀W:World,W.heap=wE.heap→W.os=wE.os→W.tape=wE.tape→W.output=wE.output→Calls Tryz.prog 74 #[.pointer (some ⟨r,0,none⟩)] W fun e w'=>e=ZQ a3∧zb r w w':=fun W e1 e2 e3 e4=>(cb W e1 e2 e3 e4).mono fun e w' h=>⟨h.2.2,D.out.trans h.1⟩
        clear cb;go_wp2_with fail
        go_region_dies
        all_goals (go_wp2_with fail;refine (G _ (by rfl) (by rfl) (by rfl) (by rfl)).mono ?_;rintro e w4 ⟨rfl,H⟩;exact ⟨rfl,H,rfl⟩)
       ·have bm:=(Zw F).1 _ _ _ _ aX ab
        have bu:=yc aX;have ak:aZ.length<ZI r wr:=by rw [az];simp only [List.length_cons];omega
        have HT:Hid (XC f3 (.mk 8 [] 0 [e,x3] e.line) aZ=some res):=J
        have G:∀W:World,W.heap=wE.heap→W.os=wE.os→W.tape=wE.tape→W.output=wE.output→Calls Tryz.prog 74 #[.pointer (some ⟨r,0,none⟩)] W fun e' w'=>∃(a3:Int) (b3:ByteArray) (c3:Int) (u0:Option Addr) (u1 u2:Nat) (l3:Int),e'=.returned (.agg #[.int .i64 a3,.string b3,.int .i64 c3,.slice u0 u1 u2,.int .i64 l3]) ∧
          w'.heap[N]?=some (.cells #[.int .i64 V,.string b2,.int .i64 c2,.slice Z U Y,.int .i64 (e.line:Int)] 90 (0,0))∧Hid (zb r wE w'∧zM wE.heap.size w' x3 (.agg #[.int .i64 a3,.string b3,.int .i64 c3,.slice u0 u1 u2,.int .i64 l3])∧∃o cap,zj r g o cap aZ w'):=fun W e1 e2 e3 e4=>(cb W e1 e2 e3 e4).mono fun e' w' h=>by
         obtain ⟨H,-,v,o4,bk,rfl,hx,ad⟩:=h;obtain ⟨a3,b3,c3,u0,u1,u2,l3,rfl⟩:=hx.agg;exact ⟨a3,b3,c3,u0,u1,u2,l3,rfl,(H.block N K (by omega)).trans ae.out,H,(by rw [←e1];exact hx:zM wE.heap.size w' x3 _),o4,bk,ad⟩
        clear cb J;go_wp2_with fail
        go_cut [] from 6 to 28 (fun wx=>Zh r g N F w res XC wx∧ZI r wx<ZI r wr)
        case first =>
         go_region_with (go_at_call 74;refine (G _ (by rfl) (by rfl) (by rfl) (by rfl)).mono ?_;rintro e' w7 ⟨a3,b3,c3,u0,u1,u2,l3,rfl,p7,H7⟩;have aV:N<w7.heap.size:=(Array.getElem?_eq_some_iff.1 p7).1;have au:=(fun ob=>(Below.heap_alloc w7 ob N aV).trans p7);obtain ⟨m0,m1,m2,m3,m4,mf⟩:=zd p7;have aJ:=zc m0;have aC:=zc m1;have aB:=zc m2;have aP:=zc m3;have aL:=zc m4;have aG:=(fun ob j=>(zd (au ob)).2.2.2.2.2 j))
         all_goals
          obtain ⟨ag,bp,o7,bx,A⟩:=H7.out;obtain ⟨W,hW⟩:∃W,W=(set5 w7 N (.int .i64 8) (.string ⟨#[]⟩) (.int .i64 0) (.slice (some ⟨w7.heap.size,0,none⟩) 2 2) (.int .i64 (e.line:Int))).alloc (.cells #[.int .i64 V,.string b2,.int .i64 c2,.slice Z U Y,.int .i64 (e.line:Int),.int .i64 a3,.string b3,.int .i64 c3,.slice u0 u1 u2,.int .i64 l3] 90):=⟨_,rfl⟩;obtain ⟨hJ,E⟩:=Zh.two (p:=XC) 8 [] hr aH aq K X.out I.out T.out ag p7 R.out bp A a4 HT.out bm A.few (.int .i64 8) rfl W hW;have ax:Hid (Zh r g N F w res XC W∧ZI r W<ZI r wr):=show _∧_<_ from ⟨hJ,by rw [E];exact ak⟩
          change Exit.then _ _ _ _ ((set5 w7 N (.int .i64 8) (.string ⟨#[]⟩) (.int .i64 0) (.slice (some ⟨w7.heap.size,0,none⟩) 2 2) (.int .i64 (e.line:Int))).alloc (.cells #[.int .i64 V,.string b2,.int .i64 c2,.slice Z U Y,.int .i64 (e.line:Int),.int .i64 a3,.string b3,.int .i64 c3,.slice u0 u1 u2,.int .i64 l3] 90))
          rw [←hW];clear hW hJ E A bp ag p7 au m0 m1 m2 m3 m4 mf aJ aC aB aP aL aG n0 n1 n2 n3 n4 nf G H7 ae R HT T D X I aa bu ak bm ab;go_wp2_with fail
          go_meet
          exact ax.out
        case rest =>
         obtain ⟨⟨e5,bB,o5,aT,f5,a5,b5,c5,p5,q5,s5,l5,bv,ah,aW,bA,ai,a0,an,aK,aY⟩,bC⟩:=hcut;obtain ⟨t5,bh,rfl⟩:=aW.cons;have cn:=xL r g o5 aT t5 bh [93] wc an (fun hi=>(aW.tail (zm hi)).ne)
         have aM:=an.left
         unfold XC Zg at ah
         simp only [zX,List.tail_cons] at ah
         by_cases hm:zk t5 [93]=true
         ·simp only [if_pos hm] at cn
          rw [if_pos hm] at ah
          have a9:Hid (∀W,zb r wc W→zj r g (o5+5) (aT-1) bh W→Zh r g N F w res (fun f e ts=>zp f e ts) W∧ZI r W<ZI r wr):=fun W hK hR =>
           ⟨Zh.moved (p:=fun f e ts=>zp f e ts) hr aq ai a0 aK aY hK hR bv ah (aW.tail (zm hm)),by rw [hR.left];simp only [List.length_cons] at aM;omega⟩
          clear ah ai a0 an aK aY G HT X I aa T D ae R n0 n1 n2 n3 n4 nf;go_wp2_with fail
          refine cn.mono ?_;clear cn;rintro e9 w9 ⟨aE,rfl,bb⟩;have bw:Hid (Zh r g N F w res (fun f e ts=>zp f e ts) w9∧ZI r w9<ZI r wr):=a9.out w9 aE bb
          clear a9 aE bb;go_wp2
          exact bw.out
         ·simp only [if_neg hm] at cn
          rw [if_neg hm] at ah;simp only [zo,Option.some.injEq] at ah;subst ah;have bt:Hid (zb r w wc):=aK;clear ai a0 an aK aY G HT X I aa T D ae R n0 n1 n2 n3 n4 nf;go_wp2_with fail
          refine cn.mono ?_;clear cn;rintro e9 w9 ⟨aE,rfl⟩;exact ⟨rfl,bt.out.trans aE,rfl⟩
     ·have bs:zk t2 [91]=false:=by simpa using hi
      rw [bs] at cs;rw [if_neg hi] at J;go_wp2_with fail
      refine cs.mono ?_;clear cs;rintro e' wB ⟨rfl,bl,ba⟩;have aS:zj r g o2 z (t2::L) wB:=by simpa using ba
      have cd:=ZA r g o2 z t2 L [46] wB aS (fun hi=>(aa.out.tail (zm hi)).ne)
      have aI:Hid (zb r wr wB):=bl;clear bl ba aS
      by_cases hd:zk t2 [46]=true
      ·rw [hd] at cd
       rw [if_pos hd] at J;have ab:=aa.out.tail (zm hd);obtain ⟨Q,M,rfl⟩:=ab.cons;go_wp2_with fail
       refine cd.mono ?_;clear cd;rintro e' wE ⟨rfl,aj,av⟩;have al:zb r wr wE:=aI.out.trans aj;have aU:zj r g (o2+5) (z-1) (Q::M) wE:=by simpa using av
       obtain ⟨pN,pz⟩:=af.out wE al;have T:Hid (zb r wr wE):=al;have D:Hid (zb r w wE):=I.out.trans al;have K:N<wE.heap.size:=(Array.getElem?_eq_some_iff.1 pN).1;have ar:Hid (zj r g (o2+5) (z-1) (Q::M) wE):=aU;obtain ⟨n0,n1,n2,n3,n4,nf⟩:=zd pN;have bo:=zc n0;have bi:=zc n1;have a8:=zc n2;have bd:=zc n3;have bg:=zc n4;have ae:Hid (wE.heap[N]?=some (.cells #[.int .i64 V,.string b2,.int .i64 c2,.slice Z U Y,.int .i64 (e.line:Int)] 90 (0,0))):=pN;have R:Hid (wE.heap[w.heap.size]?=some zJ):=pz
       have cb:∀W:World,zb r wE W→zj r g (o2+5) (z-1) (Q::M) W→Calls Tryz.prog 171 #[.pointer (some ⟨r,0,none⟩)] W fun e w'=>zb r W w'∧if Q.k=1 then e=.returned (.string (za Q.s))∧zj r g (o2+5+5) (z-1-1) M w' else e=ZQ Q.at0:=fun W hK hR =>
        Vn r g _ _ Q M W hR (fun hk=>(ab.tail (by omega)).ne)
       simp only [yD,zX,List.tail_cons] at J;clear pN pz av aU aj al aI af aR ao
       by_cases h3:Q.k=1
       ·rw [if_pos h3] at J
        have aO:=ab.tail (by omega:Q.k≠0)
        have ak:M.length<ZI r wr:=by rw [az];simp only [List.length_cons];omega
        have HT:Hid (zp f3 (.mk 9 Q.s 0 [e] e.line) M=some res):=J
        have G:∀W:World,zb r wE W→zj r g (o2+5) (z-1) (Q::M) W→Calls Tryz.prog 171 #[.pointer (some ⟨r,0,none⟩)] W fun e' w'=>e'=.returned (.string (za Q.s))∧w'.heap[N]?=some (.cells #[.int .i64 V,.string b2,.int .i64 c2,.slice Z U Y,.int .i64 (e.line:Int)] 90 (0,0))∧W.heap.size≤w'.heap.size∧Hid (zb r W w'∧zj r g (o2+5+5) (z-1-1) M w'):=fun W hK hR=>(cb W hK hR).mono fun e' w' h=>by
         obtain ⟨H,y⟩:=h;rw [if_pos h3] at y;obtain ⟨rfl,ad⟩:=y;exact ⟨rfl,(H.block N (Nat.lt_of_lt_of_le K hK.size) (by omega)).trans ((hK.block N K (by omega)).trans ae.out),H.size,H,ad⟩
        clear cb J;go_wp2_with fail
        go_region_with (go_at_call 171;refine (G _ (by first | exact zb.drew r wE | exact ((zb.refl r wE).alloc _).trans (zb.drew _ _)) (by first | exact ar.out.keep rfl rfl | exact (ar.out.alloc _).keep rfl rfl)).mono ?_;rintro e' w7 ⟨rfl,p7,bD,H7⟩;have aV:N<w7.heap.size:=(Array.getElem?_eq_some_iff.1 p7).1;have au:=(fun ob=>(Below.heap_alloc w7 ob N aV).trans p7);obtain ⟨m0,m1,m2,m3,m4,mf⟩:=zd p7;have aJ:=zc m0;have aC:=zc m1;have aB:=zc m2;have aP:=zc m3;have aL:=zc m4;have aG:=(fun ob j=>(zd (au ob)).2.2.2.2.2 j))
        all_goals (obtain ⟨am,A⟩:=H7.out)
        all_goals first
         | (have ag:zb r wE w7:=(zb.drew r wE).trans am
            obtain ⟨W,hW⟩:∃W,W=(set5 w7 N (.int .i64 9) (.string (za Q.s)) (.int .i64 0) (.slice (some ⟨w7.heap.size,0,none⟩) 1 1) (.int .i64 (e.line:Int))).alloc (.cells #[.int .i64 V,.string b2,.int .i64 c2,.slice Z U Y,.int .i64 (e.line:Int)] 90):=⟨_,rfl⟩;obtain ⟨hJ,E⟩:=Zh.one (p:=fun f e ts=>zp f e ts) 9 Q.s hr aH aq K X.out I.out T.out ag p7 R.out A a4 HT.out aO A.few (.int .i64 9) rfl W hW
            have ax:Hid (Zh r g N F w res (fun f e ts=>zp f e ts) W∧ZI r W<ZI r wr):=show _∧_<_ from ⟨hJ,by rw [E];exact ak⟩
            change Exit.inBlock _ _ _ _ ((set5 w7 N (.int .i64 9) (.string (za Q.s)) (.int .i64 0) (.slice (some ⟨w7.heap.size,0,none⟩) 1 1) (.int .i64 (e.line:Int))).alloc (.cells #[.int .i64 V,.string b2,.int .i64 c2,.slice Z U Y,.int .i64 (e.line:Int)] 90))
            rw [←hW];clear hW hJ E A ag am p7 au m0 m1 m2 m3 m4 mf aJ aC aB aP aL aG n0 n1 n2 n3 n4 nf bo bi a8 bd bg G H7 ae R HT T D X I aa ak aO ab ar;go_wp2
            exact ax.out)
         | (have ag:zb r (wE.alloc (.cells #[.int .i64 V,.string b2,.int .i64 c2,.slice Z U Y,.int .i64 (e.line:Int)] 90)) w7:=(zb.drew r (wE.alloc (.cells #[.int .i64 V,.string b2,.int .i64 c2,.slice Z U Y,.int .i64 (e.line:Int)] 90))).trans am
            obtain ⟨W,hW⟩:∃W,W=set5 w7 N (.int .i64 9) (.string (za Q.s)) (.int .i64 0) (.slice (some ⟨wE.heap.size,0,none⟩) 1 1) (.int .i64 (e.line:Int)):=⟨_,rfl⟩;obtain ⟨hJ,E⟩:=Zh.one' (p:=fun f e ts=>zp f e ts) 9 Q.s hr aH aq K X.out I.out T.out ag p7 R.out A a4 HT.out aO (.int .i64 9) rfl W hW
            have ax:Hid (Zh r g N F w res (fun f e ts=>zp f e ts) W∧ZI r W<ZI r wr):=show _∧_<_ from ⟨hJ,by rw [E];exact ak⟩
            change Exit.inBlock _ _ _ _ (set5 w7 N (.int .i64 9) (.string (za Q.s)) (.int .i64 0) (.slice (some ⟨wE.heap.size,0,none⟩) 1 1) (.int .i64 (e.line:Int)))
            rw [←hW];clear hW hJ E A ag am p7 au m0 m1 m2 m3 m4 mf aJ aC aB aP aL aG n0 n1 n2 n3 n4 nf bo bi a8 bd bg G H7 ae R HT T D X I aa ak aO ab ar;go_wp2
            exact ax.out)
       ·rw [if_neg h3] at J
        simp only [zo,Option.some.injEq] at J;subst J
        have G:∀W:World,zb r wE W→zj r g (o2+5) (z-1) (Q::M) W→Calls Tryz.prog 171 #[.pointer (some ⟨r,0,none⟩)] W fun e w'=>e=ZQ Q.at0∧zb r w w':=fun W hK hR=>(cb W hK hR).mono fun e w' h=>by
         obtain ⟨H,y⟩:=h;rw [if_neg h3] at y;exact ⟨y,D.out.trans (hK.trans H)⟩
        clear cb;go_wp2_with fail
        go_region_dies
        all_goals
         go_wp2_with fail
         refine (G _ ?_ ?_).mono ?_
         ·first | exact zb.drew r wE | exact ((zb.refl r wE).alloc _).trans (zb.drew _ _)
         ·first | exact ar.out.keep rfl rfl | exact (ar.out.alloc _).keep rfl rfl
         ·rintro e w4 ⟨rfl,H⟩;exact ⟨rfl,H,rfl⟩
      ·have br:zk t2 [46]=false:=by simpa using hd
       rw [br] at cd;rw [if_neg hd] at J;simp only [Option.some.injEq] at J;subst J;go_wp2_with fail
       refine cd.mono ?_;clear cd;rintro e' wC ⟨rfl,bf,a7⟩;obtain ⟨pN,pz,bn⟩:=aR.out wC (aI.out.trans bf) (by simpa using a7)
       obtain ⟨n0,n1,n2,n3,n4,nf⟩:=zd pN;obtain ⟨q0,q1,bz,q3,q4,qf⟩:=zd pz;obtain ⟨z0,z1,z2,z3,z4⟩:=zi pz (.int .i64 V) (.string b2) (.int .i64 c2) (.slice Z U Y) (.int .i64 (e.line:Int));have bq:Hid (zr r g w (.ok (e,t2::L)) (.returned (.agg #[.int .i64 V,.string b2,.int .i64 c2,.slice Z U Y,.int .i64 (e.line:Int)])) (set5 wC w.heap.size (.int .i64 V) (.string b2) (.int .i64 c2) (.slice Z U Y) (.int .i64 (e.line:Int)))):=bn;clear aR ao X I aa bn pN pz bf a7 aI af;go_wp2
       exact bodyPost_ret (v:=.agg #[.int .i64 V,.string b2,.int .i64 c2,.slice Z U Y,.int .i64 (e.line:Int)]) (by simp [results,Tryz.results147,go_sem,z0,z1,z2,z3,z4]) rfl bq.out
end Go.Proofs.YtmbofhpmockmbaaGreatDoor
