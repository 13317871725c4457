import Derived.Test.YtpejpbbdgblbeaaGreatDoorMC16
import Derived.Test.YtpejpbbdgblbeaaGreatDoorMC17
import Derived.Test.YtpejpbbdgblbeaaGreatDoorMC19
import Derived.Deep.RegionWith
import Derived.Deep.DeepCutAuto
import Derived.Deep.CutRange
import Derived.Test.YtpejpbbdgblbeaaGreatDoorSStatement
namespace Go.Proofs.YtpejpbbdgblbeaaGreatDoor
open Go.RowKit Go.Shelf
set_option maxHeartbeats 16000000
set_option maxRecDepth 100000
structure uf (r g f:Nat):Prop where
 between:∀least w o cap ts res,zf f least ts=some res→zi ts→zg r g o cap ts w→ZC w→Calls Tryz.prog 86 #[.pointer (some ⟨r,0,none⟩),.int .i64 (least:Nat)] w (zJ r g w res)
 unary:∀w o cap ts res,Zg f ts=some res→zi ts→zg r g o cap ts w→ZC w→Calls Tryz.prog 125 #[.pointer (some ⟨r,0,none⟩)] w (zJ r g w res)
 single:∀w o cap ts res,zC f ts=some res→zi ts→zg r g o cap ts w→ZC w→Calls Tryz.prog 180 #[.pointer (some ⟨r,0,none⟩)] w (zJ r g w res)
 row:∀w o cap ts res,ZY f [] ts=some res→zi ts→zg r g o cap ts w→ZC w→Calls Tryz.prog 196 #[.pointer (some ⟨r,0,none⟩),.func (.func 44) #[.pointer (some ⟨r,0,none⟩)] #[]] w (vS r g w res)
 brackets:∀w o cap ts res,zA f ts=some res→zi ts→zg r g o cap ts w→ZC w→Calls Tryz.prog 195 #[.pointer (some ⟨r,0,none⟩),.func (.func 44) #[.pointer (some ⟨r,0,none⟩)] #[]] w (vS r g w res)
theorem uf.expr {r g f:Nat} (C:uf r g f) (hrl:r≠1) (w:World) (o cap:Nat) (ts:List Tk) (res:PR Ex) (hp:zf f 1 ts=some res) (hE:zi ts) (h:zg r g o cap ts w) (hl:ZC w) :
  Calls Tryz.prog 44 #[.pointer (some ⟨r,0,none⟩)] w (zJ r g w res):=by
 obtain ⟨t,y,rfl⟩:=hE.cons;exact zhK r g w res h.lt.1 h.lt.2 (C.between 1 _ o cap _ res hp hE (h.alloc _) (hl.kept ((zd.refl r w).alloc _) hrl))
theorem YM {α β:Type} {x:Option (PR α)} {k:α→List Tk→Option (PR β)} {r:PR β} (h:zh x k=some r):∃r1,x=some r1:=by
 cases x with
 | none=>cases h
 | some r1=>exact ⟨r1,rfl⟩
theorem uf.next {r g f:Nat} (hrl:r≠1) (C:uf r g f)
  (HB:∀o cap least ts w res,zg r g o cap ts w→zi ts→ZC w→least≤6→zf (f+1) least ts=some res→Calls Tryz.prog 86 #[.pointer (some ⟨r,0,none⟩),.int .i64 (least:Nat)] w (zJ r g w res))
  (HW:∀o cap ts w res,zg r g o cap ts w→zi ts→ZC w→zh (zC f ts) (fun e ts=>zw f e ts)=some res→Calls Tryz.prog 148 #[.pointer (some ⟨r,0,none⟩)] w (zJ r g w res)):uf r g (f+1) where
 between:=fun least w o cap ts res hp hE h hl=>by
  by_cases h6:6<least
  ·obtain ⟨t,A,rfl⟩:=hE.cons
   rw [zf,if_pos h6] at hp;exact zbW r g least w res h.lt.1 h.lt.2 h6 (C.unary _ o cap _ res hp hE (h.alloc _) (hl.kept ((zd.refl r w).alloc _) hrl))
  ·exact HB o cap least ts w res h hE hl (by omega) hp
 unary:=fun w o cap ts res hp hE h hl=>by
  obtain ⟨t,A,rfl⟩:=hE.cons;rw [Zg] at hp;simp only [zE,List.tail_cons] at hp
  by_cases hs:t.k=4∧(t.s=[45]∨t.s=[33])
  ·rw [if_pos hs] at hp
   obtain ⟨z,G⟩:=YM hp;have y:=hE.tail (by omega:t.k≠0)
   have R:=QK r g o cap t A w z h hE hs.1 (by simpa using hs.2) fun w1 o1 cap1 hR hK=>C.unary w1 o1 cap1 A z G y hR (hl.kept hK hrl)
   have D:UB t z=res:=by
    rw [G] at hp;rcases z with a | ⟨x,J⟩ <;> simpa [zh,UB] using hp
   rw [←D];exact R
  ·rw [if_neg hs] at hp
   exact zaN r g o cap t A w res h hs fun w1 hR hK=>HW o cap _ w1 res hR hE (hl.kept hK hrl) hp
 row:=fun w o cap ts res hp hE h hl=>ziC r g o cap f ts w res h hE h.few hp fun w1 o1 cap1 ts1 z H y _ hR hK=>C.expr hrl w1 o1 cap1 ts1 z H y hR (hl.kept hK hrl)
 brackets:=fun w o cap ts res hp hE h hl=>by
  obtain ⟨t,A,rfl⟩:=hE.cons;rw [zA] at hp;simp only [zR,zE,List.tail_cons] at hp
  by_cases hi:zm t [40]=true
  ·rw [if_pos hi] at hp
   simp only [zh] at hp;have y:=hE.tail (zj hi)
   by_cases hj:zm (zv A) [41]=true
   ·rw [if_pos hj] at hp
    have D:Yn t A (.error 0)=res:=by unfold Yn;rw [if_pos hi,if_pos hj];simpa using hp
    rw [←D];exact Vi r g o cap _ t A w (.error 0) h hE (fun _ _ h=>by cases h) fun _ hj'=>by rw [hj] at hj';cases hj'
   ·rw [if_neg hj] at hp
    change zh (ZY f [] A) _=some res at hp
    obtain ⟨z,G⟩:=YM hp
    have D:Yn t A z=res:=by
     unfold Yn
     rw [if_pos hi,if_neg hj];rw [G] at hp;rcases z with a | ⟨l,J⟩
     ·simpa [zh] using hp
     ·simp only [zh] at hp
      by_cases hk:zm (zv J) [41]=true
      ·simpa [hk] using hp
      ·simpa [hk] using hp
    rw [←D];exact Vi r g o cap _ t A w z h hE (fun l J he=>by subst he;exact (Zi f).2.2.2.2.2.1 _ _ _ _ G y) fun _ _ w1 o1 cap1 hR hK=>C.row w1 o1 cap1 A z G y hR (hl.kept hK hrl)
  ·rw [if_neg hi] at hp
   have D:Yn t A (.error 0)=res:=by unfold Yn;rw [if_neg hi];exact Option.some.inj hp
   rw [←D];exact Vi r g o cap _ t A w (.error 0) h hE (fun _ _ h=>by cases h) fun hi'=>absurd hi' hi
 single:=fun w o cap ts res hp hE h hl=>by
  obtain ⟨t,A,rfl⟩:=hE.cons;rw [zC] at hp;simp only [zE,List.tail_cons] at hp
  by_cases h2:t.k=2
  ·rw [if_pos h2] at hp
   simp only [Option.some.injEq] at hp;subst hp;exact zaO r g o cap t A w h h2 (hE.tail (by omega)).ne
  ·rw [if_neg h2] at hp
   by_cases h3:t.k=3
   ·rw [if_pos h3] at hp
    simp only [Option.some.injEq] at hp;subst hp;exact zaP r g o cap t A w h h3 (hE.tail (by omega)).ne
   ·rw [if_neg h3] at hp
    by_cases G:t.k=1
    ·rw [if_pos G] at hp
     have y:=hE.tail (by omega:t.k≠0)
     obtain ⟨u,J,rfl⟩:=y.cons;refine QL r g o cap t (u::J) w res h G fun w1 hR hK=>?_
     simp only [zE] at hp
     by_cases hi:zm u [40]=true
     ·rw [if_pos hi] at hp
      obtain ⟨z,H⟩:=YM hp
      have D:zcW t z=res:=by
       rw [H] at hp;rcases z with a | ⟨l,O⟩ <;> simpa [zh,zcW] using hp
      rw [←D];exact zbV r g o cap t u J w1 z hR G hi fun w2 o2 cap2 hR2 hK2=>C.brackets w2 o2 cap2 _ z H y hR2 ((hl.kept hK hrl).kept hK2 hrl)
     ·rw [if_neg hi] at hp
      simp only [Option.some.injEq] at hp;subst hp;exact zaM r g o cap t u J w1 hR G (by simpa using hi)
    ·rw [if_neg G] at hp
     by_cases hT:zm t [116,114,117,101]=true
     ·rw [if_pos hT] at hp
      simp only [Option.some.injEq] at hp;subst hp;exact QM r g o cap t A w hT h hE G h2 h3
     ·rw [if_neg hT] at hp
      have I:zm t [116,114,117,101]=false:=by simpa using hT
      by_cases hF:zm t [102,97,108,115,101]=true
      ·rw [if_pos hF] at hp
       simp only [Option.some.injEq] at hp;subst hp;exact qq r g o cap t A w hF h hE G h2 h3 I
      ·rw [if_neg hF] at hp
       have L:zm t [102,97,108,115,101]=false:=by simpa using hF
       by_cases hN:zm t [110,101,119]=true
       ·rw [if_pos hN] at hp
        have y:=hE.tail (zj hN);obtain ⟨u,J,rfl⟩:=y.cons;simp only [Z3,zE,List.tail_cons] at hp
        by_cases hk:u.k=1
        ·rw [if_pos hk] at hp
         change zh (zA f J) _=some res at hp
         obtain ⟨z,H⟩:=YM hp
         have D:QN t u z=res:=by
          unfold QN
          rw [if_pos hk];rw [H] at hp;rcases z with a | ⟨l,O⟩ <;> simpa [zh] using hp
         rw [←D];exact uF r g o cap t u J w z hN (fun _ w2 o2 cap2 hR2 hK2=>C.brackets w2 o2 cap2 _ z H (y.tail (by omega)) hR2 (hl.kept hK2 hrl)) h hE G h2 h3 I L
        ·rw [if_neg hk] at hp
         have D:QN t u (.error 0)=res:=by unfold QN;rw [if_neg hk];simpa [zh] using hp
         rw [←D];exact uF r g o cap t u J w (.error 0) hN (fun hk'=>absurd hk' hk) h hE G h2 h3 I L
       ·rw [if_neg hN] at hp
        have N:zm t [110,101,119]=false:=by simpa using hN
        by_cases hA:zm t [91]=true
        ·rw [if_pos hA] at hp
         have y:=hE.tail (zj hA);obtain ⟨z,H⟩:=YM hp
         have D:Vj t z=res:=by
          unfold Vj
          rw [H] at hp;rcases z with a | ⟨l,O⟩
          ·simpa [zh] using hp
          ·simp only [zh,zR] at hp
           by_cases hk:zm (zv O) [93]=true
           ·simpa [hk] using hp
           ·simpa [hk] using hp
         rw [←D];exact qr r g o cap t A w z hA (fun l O he=>by subst he;exact (Zi f).2.2.2.2.2.1 _ _ _ _ H y) (fun w2 o2 cap2 hR2 hK2=>C.row w2 o2 cap2 _ z H y hR2 (hl.kept hK2 hrl)) h hE G h2 h3 I L N
        ·rw [if_neg hA] at hp
         have Q:zm t [91]=false:=by simpa using hA
         simp only [zR,zE,List.tail_cons] at hp
         by_cases hP:zm t [40]=true
         ·rw [if_pos hP] at hp
          change zh (zf f 1 A) _=some res at hp
          have y:=hE.tail (zj hP);obtain ⟨z,H⟩:=YM hp
          have D:xY t z=res:=by
           unfold xY
           rw [if_pos hP];rw [H] at hp;rcases z with a | ⟨l,O⟩
           ·simpa [zh] using hp
           ·simp only [zh] at hp
            by_cases hk:zm (zv O) [41]=true
            ·simpa [hk] using hp
            ·simpa [hk] using hp
          rw [←D];exact vT r g o cap t A w z (fun l O he=>by subst he;exact (Zi f).1 _ _ _ _ H y) (fun _ w2 o2 cap2 hR2 hK2=>C.expr hrl w2 o2 cap2 _ z H y hR2 (hl.kept hK2 hrl)) h hE G h2 h3 I L N Q
         ·rw [if_neg hP] at hp
          have D:xY t (.error 0)=res:=by unfold xY;rw [if_neg hP];simpa [zh] using hp
          rw [←D];exact vT r g o cap t A w (.error 0) (fun _ _ h=>by cases h) (fun hP'=>absurd hP' hP) h hE G h2 h3 I L N Q
def UH (f:Nat) (e:Ex) (ts:List Tk):Option (PR Ex):=zh (zR [93] ts) fun _ ts=>zw f e ts
theorem zgJ (r g o cap F:Nat) (ts:List Tk) (w:World) (res:PR Ex) (h:zg r g o cap ts w) (hE:zi ts) (hp:zh (zC F ts) (fun e ts=>zw F e ts)=some res)
  (hsg:∀w1 o1 U ts1 r1,zC F ts1=some r1→zi ts1→zg r g o1 U ts1 w1→zd r w w1→Calls Tryz.prog 180 #[.pointer (some ⟨r,0,none⟩)] w1 (zJ r g w1 r1))
  (hex:∀w1 o1 U ts1 r1,zf F 1 ts1=some r1→zi ts1→zg r g o1 U ts1 w1→zd r w w1→Calls Tryz.prog 44 #[.pointer (some ⟨r,0,none⟩)] w1 (zJ r g w1 r1)) :
  Calls Tryz.prog 148 #[.pointer (some ⟨r,0,none⟩)] w (zJ r g w res):=by
 obtain ⟨t0,bd,rfl⟩:=hE.cons;have hr:=h.lt.1;have aJ:=h.lt.2;cases hb:zC F (t0::bd) with
 | none=>rw [hb] at hp;cases hp
 | some r1 =>
  obtain ⟨w0,aT⟩:∃w0,w0=w.alloc Zz:=⟨_,rfl⟩;have c1:=hsg w0 o cap (t0::bd) r1 hb hE (by rw [aT];exact h.alloc _) (by rw [aT];exact (zd.refl r w).alloc _)
  rw [hb] at hp;simp only [zh] at hp;have az:Hid (w0=w.alloc Zz):=aT;have ar:Hid (∀w1 o1 U ts1 r1,zf F 1 ts1=some r1→zi ts1→zg r g o1 U ts1 w1→zd r w w1→Calls Tryz.prog 44 #[.pointer (some ⟨r,0,none⟩)] w1 (zJ r g w1 r1)):=hex;clear aT hex hsg
  go_enter Tryz.func148,Tryz.ntmps148
  go_wp2_with fail
  rw [←az.out];refine c1.mono ?_;clear c1;rintro e w1 ⟨aR,y⟩;have bf:zd r w w1:=by have:=az.out;subst this;exact ((zd.refl r w).alloc _).trans aR
  rcases r1 with a | ⟨x,us⟩
  ·obtain rfl:=y
   simp only [Option.some.injEq] at hp;subst hp;exact ⟨rfl,bf,rfl⟩
  ·obtain ⟨v,o1,U,rfl,hx,ad⟩:=y
   obtain ⟨a,b,c,d0,d1,d2,l,rfl⟩:=hx.agg;have bq:=(Zi F).2.2.2.2.1 _ _ _ hb hE;have hJ:=ZU.start (p:=fun f e ts=>zw f e ts) (res:=res) az.out hr aR hx ad hp bq ad.few
   have HJ:Hid (ZU r g w1.heap.size F w res (fun f e ts=>zw f e ts) (w1.alloc (.cells #[.int .i64 a,.string b,.int .i64 c,.slice d0 d1 d2,.int .i64 l] 45))):=hJ
   have aw:w.heap.size<w1.heap.size:=by have:=aR.size;have h2:=az.out;subst h2;simp at this;omega
   obtain ⟨N,aZ⟩:∃N,N=w1.heap.size:=⟨_,rfl⟩;rw [←aZ] at HJ aw;clear hJ hx ad aR bq hp hb hE h bf az;go_wp2_with fail
   rw [←aZ];generalize hW0:w1.alloc (.cells #[.int .i64 a,.string b,.int .i64 c,.slice d0 d1 d2,.int .i64 l] 45)=W0 at *;clear hW0 aZ
   go_loopw [7] (fun _ wr=>ZU r g N F w res (fun f e ts=>zw f e ts) wr) (fun _ wr=>ZP r wr)
   case atStart=>exact HJ.out
   case round =>
    obtain ⟨e,bJ,o2,z,f2,Z,Y,c2,p2,V,s2,l2,bK,J,aO,bG,au,aG,aB,a0,aS⟩:=hrel;obtain ⟨t2,R,rfl⟩:=aO.cons;obtain rfl:l2=(e.line:Int):=aG.line_eq;clear HJ;have cs:=Zx r g o2 z t2 R [91] wr aB (fun hi=>(aO.tail (zj hi)).ne)
    have aC:=aB.left
    have aI:Hid (∀W,zd r wr W→zg r g o2 z (t2::R) W→W.heap[N]?=some (.cells #[.int .i64 Z,.string Y,.int .i64 c2,.slice p2 V s2,.int .i64 (e.line:Int)] 45 (0,0))∧W.heap[w.heap.size]?=some Zz ∧
     zJ r g w (.ok (e,t2::R)) (.returned (.agg #[.int .i64 Z,.string Y,.int .i64 c2,.slice p2 V s2,.int .i64 (e.line:Int)])) (set5 W w.heap.size (.int .i64 Z) (.string Y) (.int .i64 c2) (.slice p2 V s2) (.int .i64 (e.line:Int)))) :=
     fun W hK ad=>ZU.leave hr aJ aw a0 au aS aG hK ad
    have ak:Hid (∀W,zd r wr W→W.heap[N]?=some (.cells #[.int .i64 Z,.string Y,.int .i64 c2,.slice p2 V s2,.int .i64 (e.line:Int)] 45 (0,0))∧W.heap[w.heap.size]?=some Zz) :=
     fun W hK=>⟨(hK.block _ (Array.getElem?_eq_some_iff.1 au).1 (by omega)).trans au,(hK.block _ (Array.getElem?_eq_some_iff.1 aS).1 (by omega)).trans aS⟩
    have af:Hid (zZ (fun k=>w.heap.size<k∧k≠N) wr e (.agg #[.int .i64 Z,.string Y,.int .i64 c2,.slice p2 V s2,.int .i64 (e.line:Int)])):=aG
    have L:Hid (zd r w wr):=a0;have ag:Hid (zi (t2::R)):=aO;cases f2 with
    | zero=>simp [zw] at J
    | succ f3 =>
     have aY:f3≤F:=by omega
     simp only [zw,zE,List.tail_cons] at J;clear aG a0 aB aO au aS
     by_cases hi:zm t2 [91]=true
     ·rw [hi] at cs
      rw [if_pos hi] at J;have ae:=ag.out.tail (zj hi);go_wp2_with fail
      refine cs.mono ?_;clear cs;rintro e' wE ⟨rfl,al,ax⟩;simp only [if_true] at ax;obtain ⟨pN,pz⟩:=ak.out wE al;have aa:Hid (zd r wr wE):=al;have D:Hid (zd r w wE):=L.out.trans al;have O:N<wE.heap.size:=(Array.getElem?_eq_some_iff.1 pN).1;cases hb3:zf f3 1 R with
      | none=>rw [hb3] at J;cases J
      | some r3 =>
       rw [hb3] at J;simp only [zh] at J
       have a4:zf F 1 R=some r3:=by
        have:=YU (k:=F-f3) hb3
        rwa [show f3+(F-f3)=F by omega] at this
       have cb:∀W:World,W.heap=wE.heap→W.os=wE.os→W.tape=wE.tape→W.output=wE.output→Calls Tryz.prog 44 #[.pointer (some ⟨r,0,none⟩)] W fun e w'=>zd r wE w'∧zJ r g W r3 e w':=fun W e1 e2 e3 e4 =>
        (ar.out W _ _ R r3 a4 ae (ax.keep (by rw [e1]) (by rw [e1])) ⟨e2.trans D.out.os,e3.trans D.out.tape,e4.trans D.out.output,by rw [e1];exact D.out.size,fun k hk hr=>by rw [e1];exact D.out.block k hk hr⟩).mono fun e w' h =>
         ⟨⟨h.1.os.trans e2,h.1.tape.trans e3,h.1.output.trans e4,by rw [←e1];exact h.1.size,fun k hk hr=>by rw [←e1];exact h.1.block k (by rw [e1];exact hk) hr⟩,h⟩
       obtain ⟨n0,n1,n2,n3,n4,nf⟩:=zU pN;have ah:Hid (wE.heap[N]?=some (.cells #[.int .i64 Z,.string Y,.int .i64 c2,.slice p2 V s2,.int .i64 (e.line:Int)] 45 (0,0))):=pN;have ab:Hid (wE.heap[w.heap.size]?=some Zz):=pz;clear pN pz ax al ar ak aI;rcases r3 with a3 | ⟨x3,a9⟩
       ·simp only [Option.some.injEq] at J
        subst J;have I:∀W:World,W.heap=wE.heap→W.os=wE.os→W.tape=wE.tape→W.output=wE.output→Calls Tryz.prog 44 #[.pointer (some ⟨r,0,none⟩)] W fun e w'=>e=ZI a3∧zd r w w':=fun W e1 e2 e3 e4=>(cb W e1 e2 e3 e4).mono fun e w' h=>⟨h.2.2,D.out.trans h.1⟩
        clear cb;go_wp2_with fail
        go_region_dies
        all_goals (go_wp2_with fail;refine (I _ (by rfl) (by rfl) (by rfl) (by rfl)).mono ?_;rintro e w4 ⟨rfl,H⟩;exact ⟨rfl,H,rfl⟩)
       ·have bm:=(Zi F).1 _ _ _ _ a4 ae
        have bu:=Yv a4;have an:a9.length<ZP r wr:=by rw [aC];simp only [List.length_cons];omega
        have HT:Hid (UH f3 (.mk 8 [] 0 [e,x3] e.line) a9=some res):=J
        have I:∀W:World,W.heap=wE.heap→W.os=wE.os→W.tape=wE.tape→W.output=wE.output→Calls Tryz.prog 44 #[.pointer (some ⟨r,0,none⟩)] W fun e' w'=>∃(a3:Int) (b3:ByteArray) (c3:Int) (u0:Option Addr) (u1 u2:Nat) (l3:Int),e'=.returned (.agg #[.int .i64 a3,.string b3,.int .i64 c3,.slice u0 u1 u2,.int .i64 l3]) ∧
          w'.heap[N]?=some (.cells #[.int .i64 Z,.string Y,.int .i64 c2,.slice p2 V s2,.int .i64 (e.line:Int)] 45 (0,0))∧Hid (zd r wE w'∧ZL wE.heap.size w' x3 (.agg #[.int .i64 a3,.string b3,.int .i64 c3,.slice u0 u1 u2,.int .i64 l3])∧∃o cap,zg r g o cap a9 w'):=fun W e1 e2 e3 e4=>(cb W e1 e2 e3 e4).mono fun e' w' h=>by
         obtain ⟨H,-,v,o4,bi,rfl,hx,ad⟩:=h;obtain ⟨a3,b3,c3,u0,u1,u2,l3,rfl⟩:=hx.agg;exact ⟨a3,b3,c3,u0,u1,u2,l3,rfl,(H.block N O (by omega)).trans ah.out,H,(by rw [←e1];exact hx:ZL wE.heap.size w' x3 _),o4,bi,ad⟩
        clear cb J;go_wp2_with fail
        go_cut [] from 6 to 28 (fun wx=>ZU r g N F w res UH wx∧ZP r wx<ZP r wr)
        case first =>
         go_region_with (go_at_call 44;refine (I _ (by rfl) (by rfl) (by rfl) (by rfl)).mono ?_;rintro e' w7 ⟨a3,b3,c3,u0,u1,u2,l3,rfl,p7,H7⟩;have a6:N<w7.heap.size:=(Array.getElem?_eq_some_iff.1 p7).1;have av:=(fun ob=>(Below.heap_alloc w7 ob N a6).trans p7);obtain ⟨m0,m1,m2,m3,m4,mf⟩:=zU p7;have aQ:=zl m0;have aL:=zl m1;have aE:=zl m2;have aH:=zl m3;have aP:=zl m4;have aM:=(fun ob j=>(zU (av ob)).2.2.2.2.2 j))
         all_goals
          obtain ⟨ai,bc,o7,bC,A⟩:=H7.out;obtain ⟨W,hW⟩:∃W,W=(set5 w7 N (.int .i64 8) (.string ⟨#[]⟩) (.int .i64 0) (.slice (some ⟨w7.heap.size,0,none⟩) 2 2) (.int .i64 (e.line:Int))).alloc (.cells #[.int .i64 Z,.string Y,.int .i64 c2,.slice p2 V s2,.int .i64 (e.line:Int),.int .i64 a3,.string b3,.int .i64 c3,.slice u0 u1 u2,.int .i64 l3] 45):=⟨_,rfl⟩;obtain ⟨hJ,G⟩:=ZU.two (p:=UH) 8 [] hr aJ aw O af.out L.out aa.out ai p7 ab.out bc A aY HT.out bm A.few (.int .i64 8) rfl W hW;have aA:Hid (ZU r g N F w res UH W∧ZP r W<ZP r wr):=show _∧_<_ from ⟨hJ,by rw [G];exact an⟩
          change Exit.then _ _ _ _ ((set5 w7 N (.int .i64 8) (.string ⟨#[]⟩) (.int .i64 0) (.slice (some ⟨w7.heap.size,0,none⟩) 2 2) (.int .i64 (e.line:Int))).alloc (.cells #[.int .i64 Z,.string Y,.int .i64 c2,.slice p2 V s2,.int .i64 (e.line:Int),.int .i64 a3,.string b3,.int .i64 c3,.slice u0 u1 u2,.int .i64 l3] 45))
          rw [←hW];clear hW hJ G A bc ai p7 av m0 m1 m2 m3 m4 mf aQ aL aE aH aP aM n0 n1 n2 n3 n4 nf I H7 ah ab HT aa D af L ag bu an bm ae;go_wp2_with fail
          go_meet
          exact aA.out
        case rest =>
         obtain ⟨⟨e5,bD,o5,aV,f5,a5,b5,c5,p5,q5,s5,l5,bA,aj,a1,bE,am,a7,ao,aN,a8⟩,bF⟩:=hcut;obtain ⟨t5,br,rfl⟩:=a1.cons;have cn:=yJ r g o5 aV t5 br [93] wc ao (fun hi=>(a1.tail (zj hi)).ne)
         have aD:=ao.left
         unfold UH zR at aj
         simp only [zE,List.tail_cons] at aj
         by_cases hm:zm t5 [93]=true
         ·simp only [if_pos hm] at cn
          rw [if_pos hm] at aj
          have ba:Hid (∀W,zd r wc W→zg r g (o5+5) (aV-1) br W→ZU r g N F w res (fun f e ts=>zw f e ts) W∧ZP r W<ZP r wr):=fun W hK hR =>
           ⟨ZU.moved (p:=fun f e ts=>zw f e ts) hr aw am a7 aN a8 hK hR bA aj (a1.tail (zj hm)),by rw [hR.left];simp only [List.length_cons] at aD;omega⟩
          clear aj am a7 ao aN a8 I HT af L ag aa D ah ab n0 n1 n2 n3 n4 nf;go_wp2_with fail
          refine cn.mono ?_;clear cn;rintro e9 w9 ⟨aF,rfl,bb⟩;have bw:Hid (ZU r g N F w res (fun f e ts=>zw f e ts) w9∧ZP r w9<ZP r wr):=ba.out w9 aF bb
          clear ba aF bb;go_wp2
          exact bw.out
         ·simp only [if_neg hm] at cn
          rw [if_neg hm] at aj;simp only [zh,Option.some.injEq] at aj;subst aj;have bB:Hid (zd r w wc):=aN;clear am a7 ao aN a8 I HT af L ag aa D ah ab n0 n1 n2 n3 n4 nf;go_wp2_with fail
          refine cn.mono ?_;clear cn;rintro e9 w9 ⟨aF,rfl⟩;exact ⟨rfl,bB.out.trans aF,rfl⟩
     ·have bx:zm t2 [91]=false:=by simpa using hi
      rw [bx] at cs;rw [if_neg hi] at J;go_wp2_with fail
      refine cs.mono ?_;clear cs;rintro e' wB ⟨rfl,bp,bj⟩;have aW:zg r g o2 z (t2::R) wB:=by simpa using bj
      have cd:=Zx r g o2 z t2 R [46] wB aW (fun hi=>(ag.out.tail (zj hi)).ne)
      have aU:Hid (zd r wr wB):=bp;clear bp bj aW
      by_cases hd:zm t2 [46]=true
      ·rw [hd] at cd
       rw [if_pos hd] at J;have ae:=ag.out.tail (zj hd);obtain ⟨T,Q,rfl⟩:=ae.cons;go_wp2_with fail
       refine cd.mono ?_;clear cd;rintro e' wE ⟨rfl,al,ax⟩;have ap:zd r wr wE:=aU.out.trans al;have aX:zg r g (o2+5) (z-1) (T::Q) wE:=by simpa using ax
       obtain ⟨pN,pz⟩:=ak.out wE ap;have aa:Hid (zd r wr wE):=ap;have D:Hid (zd r w wE):=L.out.trans ap;have O:N<wE.heap.size:=(Array.getElem?_eq_some_iff.1 pN).1;have ay:Hid (zg r g (o2+5) (z-1) (T::Q) wE):=aX;obtain ⟨n0,n1,n2,n3,n4,nf⟩:=zU pN;have bt:=zl n0;have be:=zl n1;have bg:=zl n2;have bh:=zl n3;have bo:=zl n4;have ah:Hid (wE.heap[N]?=some (.cells #[.int .i64 Z,.string Y,.int .i64 c2,.slice p2 V s2,.int .i64 (e.line:Int)] 45 (0,0))):=pN;have ab:Hid (wE.heap[w.heap.size]?=some Zz):=pz
       have cb:∀W:World,zd r wE W→zg r g (o2+5) (z-1) (T::Q) W→Calls Tryz.prog 94 #[.pointer (some ⟨r,0,none⟩)] W fun e w'=>zd r W w'∧if T.k=1 then e=.returned (.string (zb T.s))∧zg r g (o2+5+5) (z-1-1) Q w' else e=ZI T.at0:=fun W hK hR =>
        xu r g _ _ T Q W hR (fun hk=>(ae.tail (by omega)).ne)
       simp only [Z3,zE,List.tail_cons] at J;clear pN pz ax aX al ap aU ak aI ar
       by_cases h3:T.k=1
       ·rw [if_pos h3] at J
        have aK:=ae.tail (by omega:T.k≠0)
        have an:Q.length<ZP r wr:=by rw [aC];simp only [List.length_cons];omega
        have HT:Hid (zw f3 (.mk 9 T.s 0 [e] e.line) Q=some res):=J
        have I:∀W:World,zd r wE W→zg r g (o2+5) (z-1) (T::Q) W→Calls Tryz.prog 94 #[.pointer (some ⟨r,0,none⟩)] W fun e' w'=>e'=.returned (.string (zb T.s))∧w'.heap[N]?=some (.cells #[.int .i64 Z,.string Y,.int .i64 c2,.slice p2 V s2,.int .i64 (e.line:Int)] 45 (0,0))∧W.heap.size≤w'.heap.size∧Hid (zd r W w'∧zg r g (o2+5+5) (z-1-1) Q w'):=fun W hK hR=>(cb W hK hR).mono fun e' w' h=>by
         obtain ⟨H,y⟩:=h;rw [if_pos h3] at y;obtain ⟨rfl,ad⟩:=y;exact ⟨rfl,(H.block N (Nat.lt_of_lt_of_le O hK.size) (by omega)).trans ((hK.block N O (by omega)).trans ah.out),H.size,H,ad⟩
        clear cb J;go_wp2_with fail
        go_region_with (go_at_call 94;refine (I _ (by first | exact zd.drew r wE | exact ((zd.refl r wE).alloc _).trans (zd.drew _ _)) (by first | exact ay.out.keep rfl rfl | exact (ay.out.alloc _).keep rfl rfl)).mono ?_;rintro e' w7 ⟨rfl,p7,bH,H7⟩;have a6:N<w7.heap.size:=(Array.getElem?_eq_some_iff.1 p7).1;have av:=(fun ob=>(Below.heap_alloc w7 ob N a6).trans p7);obtain ⟨m0,m1,m2,m3,m4,mf⟩:=zU p7;have aQ:=zl m0;have aL:=zl m1;have aE:=zl m2;have aH:=zl m3;have aP:=zl m4;have aM:=(fun ob j=>(zU (av ob)).2.2.2.2.2 j))
        all_goals (obtain ⟨aq,A⟩:=H7.out)
        all_goals first
         | (have ai:zd r wE w7:=(zd.drew r wE).trans aq
            obtain ⟨W,hW⟩:∃W,W=(set5 w7 N (.int .i64 9) (.string (zb T.s)) (.int .i64 0) (.slice (some ⟨w7.heap.size,0,none⟩) 1 1) (.int .i64 (e.line:Int))).alloc (.cells #[.int .i64 Z,.string Y,.int .i64 c2,.slice p2 V s2,.int .i64 (e.line:Int)] 45):=⟨_,rfl⟩;obtain ⟨hJ,G⟩:=ZU.one (p:=fun f e ts=>zw f e ts) 9 T.s hr aJ aw O af.out L.out aa.out ai p7 ab.out A aY HT.out aK A.few (.int .i64 9) rfl W hW
            have aA:Hid (ZU r g N F w res (fun f e ts=>zw f e ts) W∧ZP r W<ZP r wr):=show _∧_<_ from ⟨hJ,by rw [G];exact an⟩
            change Exit.inBlock _ _ _ _ ((set5 w7 N (.int .i64 9) (.string (zb T.s)) (.int .i64 0) (.slice (some ⟨w7.heap.size,0,none⟩) 1 1) (.int .i64 (e.line:Int))).alloc (.cells #[.int .i64 Z,.string Y,.int .i64 c2,.slice p2 V s2,.int .i64 (e.line:Int)] 45))
            rw [←hW];clear hW hJ G A ai aq p7 av m0 m1 m2 m3 m4 mf aQ aL aE aH aP aM n0 n1 n2 n3 n4 nf bt be bg bh bo I H7 ah ab HT aa D af L ag an aK ae ay;go_wp2
            exact aA.out)
         | (have ai:zd r (wE.alloc (.cells #[.int .i64 Z,.string Y,.int .i64 c2,.slice p2 V s2,.int .i64 (e.line:Int)] 45)) w7:=(zd.drew r (wE.alloc (.cells #[.int .i64 Z,.string Y,.int .i64 c2,.slice p2 V s2,.int .i64 (e.line:Int)] 45))).trans aq
            obtain ⟨W,hW⟩:∃W,W=set5 w7 N (.int .i64 9) (.string (zb T.s)) (.int .i64 0) (.slice (some ⟨wE.heap.size,0,none⟩) 1 1) (.int .i64 (e.line:Int)):=⟨_,rfl⟩;obtain ⟨hJ,G⟩:=ZU.one' (p:=fun f e ts=>zw f e ts) 9 T.s hr aJ aw O af.out L.out aa.out ai p7 ab.out A aY HT.out aK (.int .i64 9) rfl W hW
            have aA:Hid (ZU r g N F w res (fun f e ts=>zw f e ts) W∧ZP r W<ZP r wr):=show _∧_<_ from ⟨hJ,by rw [G];exact an⟩
            change Exit.inBlock _ _ _ _ (set5 w7 N (.int .i64 9) (.string (zb T.s)) (.int .i64 0) (.slice (some ⟨wE.heap.size,0,none⟩) 1 1) (.int .i64 (e.line:Int)))
            rw [←hW];clear hW hJ G A ai aq p7 av m0 m1 m2 m3 m4 mf aQ aL aE aH aP aM n0 n1 n2 n3 n4 nf bt be bg bh bo I H7 ah ab HT aa D af L ag an aK ae ay;go_wp2
            exact aA.out)
       ·rw [if_neg h3] at J
        simp only [zh,Option.some.injEq] at J;subst J
        have I:∀W:World,zd r wE W→zg r g (o2+5) (z-1) (T::Q) W→Calls Tryz.prog 94 #[.pointer (some ⟨r,0,none⟩)] W fun e w'=>e=ZI T.at0∧zd r w w':=fun W hK hR=>(cb W hK hR).mono fun e w' h=>by
         obtain ⟨H,y⟩:=h;rw [if_neg h3] at y;exact ⟨y,D.out.trans (hK.trans H)⟩
        clear cb;go_wp2_with fail
        go_region_dies
        all_goals
         go_wp2_with fail
         refine (I _ ?_ ?_).mono ?_
         ·first | exact zd.drew r wE | exact ((zd.refl r wE).alloc _).trans (zd.drew _ _)
         ·first | exact ay.out.keep rfl rfl | exact (ay.out.alloc _).keep rfl rfl
         ·rintro e w4 ⟨rfl,H⟩;exact ⟨rfl,H,rfl⟩
      ·have bz:zm t2 [46]=false:=by simpa using hd
       rw [bz] at cd;rw [if_neg hd] at J;simp only [Option.some.injEq] at J;subst J;go_wp2_with fail
       refine cd.mono ?_;clear cd;rintro e' wC ⟨rfl,bs,bn⟩;obtain ⟨pN,pz,bk⟩:=aI.out wC (aU.out.trans bs) (by simpa using bn)
       obtain ⟨n0,n1,n2,n3,n4,nf⟩:=zU pN;obtain ⟨q0,q1,bI,q3,q4,qf⟩:=zU pz;obtain ⟨z0,z1,z2,z3,z4⟩:=zX pz (.int .i64 Z) (.string Y) (.int .i64 c2) (.slice p2 V s2) (.int .i64 (e.line:Int));have bv:Hid (zJ r g w (.ok (e,t2::R)) (.returned (.agg #[.int .i64 Z,.string Y,.int .i64 c2,.slice p2 V s2,.int .i64 (e.line:Int)])) (set5 wC w.heap.size (.int .i64 Z) (.string Y) (.int .i64 c2) (.slice p2 V s2) (.int .i64 (e.line:Int)))):=bk;clear aI ar af L ag bk pN pz bs bn aU ak;go_wp2
       exact bodyPost_ret (v:=.agg #[.int .i64 Z,.string Y,.int .i64 c2,.slice p2 V s2,.int .i64 (e.line:Int)]) (by simp [results,Tryz.results148,go_sem,z0,z1,z2,z3,z4]) rfl bv.out
theorem zfd (r g:Nat) (hrl:r≠1):∀f,uf r g f:=by
 intro f
 induction f with
 | zero=>exact ⟨fun _ _ _ _ _ _ h=>by simp [zf] at h,fun _ _ _ _ _ h=>by simp [Zg] at h,fun _ _ _ _ _ h=>by simp [zC] at h,fun _ _ _ _ _ h=>by simp [ZY] at h,fun _ _ _ _ _ h=>by simp [zA] at h⟩
 | succ f C =>
  refine C.next hrl (fun o cap least ts w res h hE hl h6 hp=>?_) (fun o cap ts w res h hE hl hp=>?_)
  ·refine zdK r g o cap f least ts w res h hE h.few hl hrl h6 hp fun w1 o1 cap1 ts1 r1 hb hE1 _ hR hK=>?_
   have:=C.between (least+1) w1 o1 cap1 ts1 r1 hb hE1 hR (hl.kept hK hrl)
   simpa using this
  ·exact zgJ r g o cap f ts w res h hE hp (fun w1 o1 cap1 ts1 r1 hb hE1 hR hK=>C.single w1 o1 cap1 ts1 r1 hb hE1 hR (hl.kept hK hrl)) fun w1 o1 cap1 ts1 r1 hb hE1 hR hK=>C.expr hrl w1 o1 cap1 ts1 r1 hb hE1 hR (hl.kept hK hrl)
structure zh3 (r g f:Nat):Prop where
 stmt:∀w o cap ts res,Ze f ts=some res→zi ts→zg r g o cap ts w→ZC w→Calls Tryz.prog 136 #[.pointer (some ⟨r,0,none⟩)] w (ZH r g w res)
 block:∀w o cap ts res,zH f ts=some res→zi ts→zg r g o cap ts w→ZC w→Calls Tryz.prog 100 #[.pointer (some ⟨r,0,none⟩)] w (X5 r g w res)
theorem zh4 (r g:Nat) (hrl:r≠1):∀f,zh3 r g f:=by
 intro f
 induction f with
 | zero=>exact ⟨fun _ _ _ _ _ h=>by simp [Ze] at h,fun _ _ _ _ _ h=>by simp [zH] at h⟩
 | succ f C =>
  refine ⟨fun w o cap ts res hp hE h hl=>?_,fun w o cap ts res hp hE h hl=>?_⟩
  ·exact za2 r g o cap f ts w res h hE hp (fun w1 o1 cap1 ts1 r1 hb hE1 hR hK=>(zfd r g hrl f).expr hrl w1 o1 cap1 ts1 r1 hb hE1 hR (hl.kept hK hrl)) (fun w1 o1 cap1 ts1 r1 hb hE1 hR hK=>C.block w1 o1 cap1 ts1 r1 hb hE1 hR (hl.kept hK hrl))
  ·exact zgw r g o cap f ts w res h hE hp (fun w1 o1 cap1 ts1 r1 hb hE1 hR hK=>C.stmt w1 o1 cap1 ts1 r1 hb hE1 hR (hl.kept hK hrl))
end Go.Proofs.YtpejpbbdgblbeaaGreatDoor
