import Derived.Test.YtcphojjpapgblaaGreatDoorMC15
import Derived.Test.YtcphojjpapgblaaGreatDoorMC16
import Derived.Test.YtcphojjpapgblaaGreatDoorMC18
import Derived.Deep.RegionWith
import Derived.Deep.DeepCutAuto
import Derived.Deep.CutRange
import Derived.Test.YtcphojjpapgblaaGreatDoorSStatement
namespace Go.Proofs.YtcphojjpapgblaaGreatDoor
open Go.RowKit Go.Shelf
set_option maxHeartbeats 16000000
set_option maxRecDepth 100000
structure uc (r g f:Nat):Prop where
 between:∀least w o cap ts res,zg f least ts=some res→zi ts→zf r g o cap ts w→ZA w→Calls Tryz.prog 84 #[.pointer (some ⟨r,0,none⟩),.int .i64 (least:Nat)] w (zJ r g w res)
 unary:∀w o cap ts res,Zm f ts=some res→zi ts→zf r g o cap ts w→ZA w→Calls Tryz.prog 123 #[.pointer (some ⟨r,0,none⟩)] w (zJ r g w res)
 single:∀w o cap ts res,zH f ts=some res→zi ts→zf r g o cap ts w→ZA w→Calls Tryz.prog 178 #[.pointer (some ⟨r,0,none⟩)] w (zJ r g w res)
 row:∀w o cap ts res,Z1 f [] ts=some res→zi ts→zf r g o cap ts w→ZA w→Calls Tryz.prog 194 #[.pointer (some ⟨r,0,none⟩),.func (.func 42) #[.pointer (some ⟨r,0,none⟩)] #[]] w (vP r g w res)
 brackets:∀w o cap ts res,zG f ts=some res→zi ts→zf r g o cap ts w→ZA w→Calls Tryz.prog 193 #[.pointer (some ⟨r,0,none⟩),.func (.func 42) #[.pointer (some ⟨r,0,none⟩)] #[]] w (vP r g w res)
theorem uc.expr {r g f:Nat} (C:uc r g f) (hrl:r≠1) (w:World) (o cap:Nat) (ts:List Tk) (res:PR Ex) (hp:zg f 1 ts=some res) (hE:zi ts) (h:zf r g o cap ts w) (hl:ZA w) :
  Calls Tryz.prog 42 #[.pointer (some ⟨r,0,none⟩)] w (zJ r g w res):=by
 obtain ⟨t,y,rfl⟩:=hE.cons;exact zhW r g w res h.lt.1 h.lt.2 (C.between 1 _ o cap _ res hp hE (h.alloc _) (hl.kept ((zc.refl r w).alloc _) hrl))
theorem YO {α β:Type} {x:Option (PR α)} {k:α→List Tk→Option (PR β)} {r:PR β} (h:zh x k=some r):∃r1,x=some r1:=by
 cases x with
 | none=>cases h
 | some r1=>exact ⟨r1,rfl⟩
theorem uc.next {r g f:Nat} (hrl:r≠1) (C:uc r g f)
  (HB:∀o cap least ts w res,zf r g o cap ts w→zi ts→ZA w→least≤6→zg (f+1) least ts=some res→Calls Tryz.prog 84 #[.pointer (some ⟨r,0,none⟩),.int .i64 (least:Nat)] w (zJ r g w res))
  (HW:∀o cap ts w res,zf r g o cap ts w→zi ts→ZA w→zh (zH f ts) (fun e ts=>zx f e ts)=some res→Calls Tryz.prog 146 #[.pointer (some ⟨r,0,none⟩)] w (zJ r g w res)):uc r g (f+1) where
 between:=fun least w o cap ts res hp hE h hl=>by
  by_cases h6:6<least
  ·obtain ⟨t,A,rfl⟩:=hE.cons
   rw [zg,if_pos h6] at hp;exact zcf r g least w res h.lt.1 h.lt.2 h6 (C.unary _ o cap _ res hp hE (h.alloc _) (hl.kept ((zc.refl r w).alloc _) hrl))
  ·exact HB o cap least ts w res h hE hl (by omega) hp
 unary:=fun w o cap ts res hp hE h hl=>by
  obtain ⟨t,A,rfl⟩:=hE.cons;rw [Zm] at hp;simp only [zC,List.tail_cons] at hp
  by_cases hs:t.k=4∧(t.s=[45]∨t.s=[33])
  ·rw [if_pos hs] at hp
   obtain ⟨z,D⟩:=YO hp;have y:=hE.tail (by omega:t.k≠0)
   have R:=QZ r g o cap t A w z h hE hs.1 (by simpa using hs.2) fun w1 o1 cap1 hR hK=>C.unary w1 o1 cap1 A z D y hR (hl.kept hK hrl)
   have G:UD t z=res:=by
    rw [D] at hp;rcases z with a | ⟨x,L⟩ <;> simpa [zh,UD] using hp
   rw [←G];exact R
  ·rw [if_neg hs] at hp
   exact zaZ r g o cap t A w res h hs fun w1 hR hK=>HW o cap _ w1 res hR hE (hl.kept hK hrl) hp
 row:=fun w o cap ts res hp hE h hl=>ziS r g o cap f ts w res h hE h.few hp fun w1 o1 cap1 ts1 z H y _ hR hK=>C.expr hrl w1 o1 cap1 ts1 z H y hR (hl.kept hK hrl)
 brackets:=fun w o cap ts res hp hE h hl=>by
  obtain ⟨t,A,rfl⟩:=hE.cons;rw [zG] at hp;simp only [zR,zC,List.tail_cons] at hp
  by_cases hi:zm t [40]=true
  ·rw [if_pos hi] at hp
   simp only [zh] at hp;have y:=hE.tail (zk hi)
   by_cases hj:zm (zu A) [41]=true
   ·rw [if_pos hj] at hp
    have G:Yn t A (.error 0)=res:=by unfold Yn;rw [if_pos hi,if_pos hj];simpa using hp
    rw [←G];exact Vf r g o cap _ t A w (.error 0) h hE (fun _ _ h=>by cases h) fun _ hj'=>by rw [hj] at hj';cases hj'
   ·rw [if_neg hj] at hp
    change zh (Z1 f [] A) _=some res at hp
    obtain ⟨z,D⟩:=YO hp
    have G:Yn t A z=res:=by
     unfold Yn
     rw [if_pos hi,if_neg hj];rw [D] at hp;rcases z with a | ⟨l,L⟩
     ·simpa [zh] using hp
     ·simp only [zh] at hp
      by_cases hk:zm (zu L) [41]=true
      ·simpa [hk] using hp
      ·simpa [hk] using hp
    rw [←G];exact Vf r g o cap _ t A w z h hE (fun l L he=>by subst he;exact (Ze f).2.2.2.2.2.1 _ _ _ _ D y) fun _ _ w1 o1 cap1 hR hK=>C.row w1 o1 cap1 A z D y hR (hl.kept hK hrl)
  ·rw [if_neg hi] at hp
   have G:Yn t A (.error 0)=res:=by unfold Yn;rw [if_neg hi];exact Option.some.inj hp
   rw [←G];exact Vf r g o cap _ t A w (.error 0) h hE (fun _ _ h=>by cases h) fun hi'=>absurd hi' hi
 single:=fun w o cap ts res hp hE h hl=>by
  obtain ⟨t,A,rfl⟩:=hE.cons;rw [zH] at hp;simp only [zC,List.tail_cons] at hp
  by_cases h2:t.k=2
  ·rw [if_pos h2] at hp
   simp only [Option.some.injEq] at hp;subst hp;exact za0 r g o cap t A w h h2 (hE.tail (by omega)).ne
  ·rw [if_neg h2] at hp
   by_cases h3:t.k=3
   ·rw [if_pos h3] at hp
    simp only [Option.some.injEq] at hp;subst hp;exact za1 r g o cap t A w h h3 (hE.tail (by omega)).ne
   ·rw [if_neg h3] at hp
    by_cases D:t.k=1
    ·rw [if_pos D] at hp
     have y:=hE.tail (by omega:t.k≠0)
     obtain ⟨u,L,rfl⟩:=y.cons;refine Q0 r g o cap t (u::L) w res h D fun w1 hR hK=>?_
     simp only [zC] at hp
     by_cases hi:zm u [40]=true
     ·rw [if_pos hi] at hp
      obtain ⟨z,H⟩:=YO hp
      have G:zdh t z=res:=by
       rw [H] at hp;rcases z with a | ⟨l,O⟩ <;> simpa [zh,zdh] using hp
      rw [←G];exact zce r g o cap t u L w1 z hR D hi fun w2 o2 cap2 hR2 hK2=>C.brackets w2 o2 cap2 _ z H y hR2 ((hl.kept hK hrl).kept hK2 hrl)
     ·rw [if_neg hi] at hp
      simp only [Option.some.injEq] at hp;subst hp;exact zaY r g o cap t u L w1 hR D (by simpa using hi)
    ·rw [if_neg D] at hp
     by_cases hT:zm t [116,114,117,101]=true
     ·rw [if_pos hT] at hp
      simp only [Option.some.injEq] at hp;subst hp;exact Q1 r g o cap t A w hT h hE D h2 h3
     ·rw [if_neg hT] at hp
      have I:zm t [116,114,117,101]=false:=by simpa using hT
      by_cases hF:zm t [102,97,108,115,101]=true
      ·rw [if_pos hF] at hp
       simp only [Option.some.injEq] at hp;subst hp;exact qF r g o cap t A w hF h hE D h2 h3 I
      ·rw [if_neg hF] at hp
       have J:zm t [102,97,108,115,101]=false:=by simpa using hF
       by_cases hN:zm t [110,101,119]=true
       ·rw [if_pos hN] at hp
        have y:=hE.tail (zk hN);obtain ⟨u,L,rfl⟩:=y.cons;simp only [Z6,zC,List.tail_cons] at hp
        by_cases hk:u.k=1
        ·rw [if_pos hk] at hp
         change zh (zG f L) _=some res at hp
         obtain ⟨z,H⟩:=YO hp
         have G:Q2 t u z=res:=by
          unfold Q2
          rw [if_pos hk];rw [H] at hp;rcases z with a | ⟨l,O⟩ <;> simpa [zh] using hp
         rw [←G];exact uL r g o cap t u L w z hN (fun _ w2 o2 cap2 hR2 hK2=>C.brackets w2 o2 cap2 _ z H (y.tail (by omega)) hR2 (hl.kept hK2 hrl)) h hE D h2 h3 I J
        ·rw [if_neg hk] at hp
         have G:Q2 t u (.error 0)=res:=by unfold Q2;rw [if_neg hk];simpa [zh] using hp
         rw [←G];exact uL r g o cap t u L w (.error 0) hN (fun hk'=>absurd hk' hk) h hE D h2 h3 I J
       ·rw [if_neg hN] at hp
        have N:zm t [110,101,119]=false:=by simpa using hN
        by_cases hA:zm t [91]=true
        ·rw [if_pos hA] at hp
         have y:=hE.tail (zk hA);obtain ⟨z,H⟩:=YO hp
         have G:Vg t z=res:=by
          unfold Vg
          rw [H] at hp;rcases z with a | ⟨l,O⟩
          ·simpa [zh] using hp
          ·simp only [zh,zR] at hp
           by_cases hk:zm (zu O) [93]=true
           ·simpa [hk] using hp
           ·simpa [hk] using hp
         rw [←G];exact qG r g o cap t A w z hA (fun l O he=>by subst he;exact (Ze f).2.2.2.2.2.1 _ _ _ _ H y) (fun w2 o2 cap2 hR2 hK2=>C.row w2 o2 cap2 _ z H y hR2 (hl.kept hK2 hrl)) h hE D h2 h3 I J N
        ·rw [if_neg hA] at hp
         have Q:zm t [91]=false:=by simpa using hA
         simp only [zR,zC,List.tail_cons] at hp
         by_cases hP:zm t [40]=true
         ·rw [if_pos hP] at hp
          change zh (zg f 1 A) _=some res at hp
          have y:=hE.tail (zk hP);obtain ⟨z,H⟩:=YO hp
          have G:xY t z=res:=by
           unfold xY
           rw [if_pos hP];rw [H] at hp;rcases z with a | ⟨l,O⟩
           ·simpa [zh] using hp
           ·simp only [zh] at hp
            by_cases hk:zm (zu O) [41]=true
            ·simpa [hk] using hp
            ·simpa [hk] using hp
          rw [←G];exact vQ r g o cap t A w z (fun l O he=>by subst he;exact (Ze f).1 _ _ _ _ H y) (fun _ w2 o2 cap2 hR2 hK2=>C.expr hrl w2 o2 cap2 _ z H y hR2 (hl.kept hK2 hrl)) h hE D h2 h3 I J N Q
         ·rw [if_neg hP] at hp
          have G:xY t (.error 0)=res:=by unfold xY;rw [if_neg hP];simpa [zh] using hp
          rw [←G];exact vQ r g o cap t A w (.error 0) (fun _ _ h=>by cases h) (fun hP'=>absurd hP' hP) h hE D h2 h3 I J N Q
def UJ (f:Nat) (e:Ex) (ts:List Tk):Option (PR Ex):=zh (zR [93] ts) fun _ ts=>zx f e ts
theorem zgZ (r g o cap F:Nat) (ts:List Tk) (w:World) (res:PR Ex) (h:zf r g o cap ts w) (hE:zi ts) (hp:zh (zH F ts) (fun e ts=>zx F e ts)=some res)
  (hsg:∀w1 o1 T ts1 r1,zH F ts1=some r1→zi ts1→zf r g o1 T ts1 w1→zc r w w1→Calls Tryz.prog 178 #[.pointer (some ⟨r,0,none⟩)] w1 (zJ r g w1 r1))
  (hex:∀w1 o1 T ts1 r1,zg F 1 ts1=some r1→zi ts1→zf r g o1 T ts1 w1→zc r w w1→Calls Tryz.prog 42 #[.pointer (some ⟨r,0,none⟩)] w1 (zJ r g w1 r1)) :
  Calls Tryz.prog 146 #[.pointer (some ⟨r,0,none⟩)] w (zJ r g w res):=by
 obtain ⟨t0,bc,rfl⟩:=hE.cons;have hr:=h.lt.1;have aA:=h.lt.2;cases hb:zH F (t0::bc) with
 | none=>rw [hb] at hp;cases hp
 | some r1 =>
  obtain ⟨w0,aD⟩:∃w0,w0=w.alloc Zz:=⟨_,rfl⟩;have c1:=hsg w0 o cap (t0::bc) r1 hb hE (by rw [aD];exact h.alloc _) (by rw [aD];exact (zc.refl r w).alloc _)
  rw [hb] at hp;simp only [zh] at hp;have ay:Hid (w0=w.alloc Zz):=aD;have an:Hid (∀w1 o1 T ts1 r1,zg F 1 ts1=some r1→zi ts1→zf r g o1 T ts1 w1→zc r w w1→Calls Tryz.prog 42 #[.pointer (some ⟨r,0,none⟩)] w1 (zJ r g w1 r1)):=hex;clear aD hex hsg
  go_enter Tryz.func146,Tryz.ntmps146
  go_wp2_with fail
  rw [←ay.out];refine c1.mono ?_;clear c1;rintro e w1 ⟨aI,z⟩;have be:zc r w w1:=by have:=ay.out;subst this;exact ((zc.refl r w).alloc _).trans aI
  rcases r1 with a | ⟨x,us⟩
  ·obtain rfl:=z
   simp only [Option.some.injEq] at hp;subst hp;exact ⟨rfl,be,rfl⟩
  ·obtain ⟨v,o1,T,rfl,hx,ab⟩:=z
   obtain ⟨a,b,c,d0,d1,d2,l,rfl⟩:=hx.agg;have bg:=(Ze F).2.2.2.2.1 _ _ _ hb hE;have hJ:=ZS.start (p:=fun f e ts=>zx f e ts) (res:=res) ay.out hr aI hx ab hp bg ab.few
   have HJ:Hid (ZS r g w1.heap.size F w res (fun f e ts=>zx f e ts) (w1.alloc (.cells #[.int .i64 a,.string b,.int .i64 c,.slice d0 d1 d2,.int .i64 l] 45))):=hJ
   have au:w.heap.size<w1.heap.size:=by have:=aI.size;have h2:=ay.out;subst h2;simp at this;omega
   obtain ⟨N,aW⟩:∃N,N=w1.heap.size:=⟨_,rfl⟩;rw [←aW] at HJ au;clear hJ hx ab aI bg hp hb hE h be ay;go_wp2_with fail
   rw [←aW];generalize hW0:w1.alloc (.cells #[.int .i64 a,.string b,.int .i64 c,.slice d0 d1 d2,.int .i64 l] 45)=W0 at *;clear hW0 aW
   go_loopw [7] (fun _ wr=>ZS r g N F w res (fun f e ts=>zx f e ts) wr) (fun _ wr=>ZO r wr)
   case atStart=>exact HJ.out
   case round =>
    obtain ⟨e,bD,o2,y,f2,Z,b2,c2,p2,q2,s2,l2,bE,O,aQ,bH,al,aJ,aw,a4,aB⟩:=hrel;obtain ⟨t2,R,rfl⟩:=aQ.cons;obtain rfl:l2=(e.line:Int):=aJ.line_eq;clear HJ;have cs:=Zy r g o2 y t2 R [91] wr aw (fun hi=>(aQ.tail (zk hi)).ne)
    have az:=aw.left
    have aM:Hid (∀W,zc r wr W→zf r g o2 y (t2::R) W→W.heap[N]?=some (.cells #[.int .i64 Z,.string b2,.int .i64 c2,.slice p2 q2 s2,.int .i64 (e.line:Int)] 45 (0,0))∧W.heap[w.heap.size]?=some Zz ∧
     zJ r g w (.ok (e,t2::R)) (.returned (.agg #[.int .i64 Z,.string b2,.int .i64 c2,.slice p2 q2 s2,.int .i64 (e.line:Int)])) (set5 W w.heap.size (.int .i64 Z) (.string b2) (.int .i64 c2) (.slice p2 q2 s2) (.int .i64 (e.line:Int)))) :=
     fun W hK ab=>ZS.leave hr aA au a4 al aB aJ hK ab
    have ah:Hid (∀W,zc r wr W→W.heap[N]?=some (.cells #[.int .i64 Z,.string b2,.int .i64 c2,.slice p2 q2 s2,.int .i64 (e.line:Int)] 45 (0,0))∧W.heap[w.heap.size]?=some Zz) :=
     fun W hK=>⟨(hK.block _ (Array.getElem?_eq_some_iff.1 al).1 (by omega)).trans al,(hK.block _ (Array.getElem?_eq_some_iff.1 aB).1 (by omega)).trans aB⟩
    have ad:Hid (zX (fun k=>w.heap.size<k∧k≠N) wr e (.agg #[.int .i64 Z,.string b2,.int .i64 c2,.slice p2 q2 s2,.int .i64 (e.line:Int)])):=aJ
    have J:Hid (zc r w wr):=a4;have aa:Hid (zi (t2::R)):=aQ;cases f2 with
    | zero=>simp [zx] at O
    | succ f3 =>
     have aX:f3≤F:=by omega
     simp only [zx,zC,List.tail_cons] at O;clear aJ a4 aw aQ al aB
     by_cases hi:zm t2 [91]=true
     ·rw [hi] at cs
      rw [if_pos hi] at O;have X:=aa.out.tail (zk hi);go_wp2_with fail
      refine cs.mono ?_;clear cs;rintro e' wE ⟨rfl,ai,av⟩;simp only [if_true] at av;obtain ⟨pN,pz⟩:=ah.out wE ai;have Y:Hid (zc r wr wE):=ai;have D:Hid (zc r w wE):=J.out.trans ai;have L:N<wE.heap.size:=(Array.getElem?_eq_some_iff.1 pN).1;cases hb3:zg f3 1 R with
      | none=>rw [hb3] at O;cases O
      | some r3 =>
       rw [hb3] at O;simp only [zh] at O
       have a6:zg F 1 R=some r3:=by
        have:=YW (k:=F-f3) hb3
        rwa [show f3+(F-f3)=F by omega] at this
       have cb:∀W:World,W.heap=wE.heap→W.os=wE.os→W.tape=wE.tape→W.output=wE.output→Calls Tryz.prog 42 #[.pointer (some ⟨r,0,none⟩)] W fun e w'=>zc r wE w'∧zJ r g W r3 e w':=fun W e1 e2 e3 e4 =>
        (an.out W _ _ R r3 a6 X (av.keep (by rw [e1]) (by rw [e1])) ⟨e2.trans D.out.os,e3.trans D.out.tape,e4.trans D.out.output,by rw [e1];exact D.out.size,fun k hk hr=>by rw [e1];exact D.out.block k hk hr⟩).mono fun e w' h =>
         ⟨⟨h.1.os.trans e2,h.1.tape.trans e3,h.1.output.trans e4,by rw [←e1];exact h.1.size,fun k hk hr=>by rw [←e1];exact h.1.block k (by rw [e1];exact hk) hr⟩,h⟩
       obtain ⟨n0,n1,n2,n3,n4,nf⟩:=zU pN;have af:Hid (wE.heap[N]?=some (.cells #[.int .i64 Z,.string b2,.int .i64 c2,.slice p2 q2 s2,.int .i64 (e.line:Int)] 45 (0,0))):=pN;have V:Hid (wE.heap[w.heap.size]?=some Zz):=pz;clear pN pz av ai an ah aM;rcases r3 with a3 | ⟨x3,a1⟩
       ·simp only [Option.some.injEq] at O
        subst O;have I:∀W:World,W.heap=wE.heap→W.os=wE.os→W.tape=wE.tape→W.output=wE.output→Calls Tryz.prog 42 #[.pointer (some ⟨r,0,none⟩)] W fun e w'=>e=ZG a3∧zc r w w':=fun W e1 e2 e3 e4=>(cb W e1 e2 e3 e4).mono fun e w' h=>⟨h.2.2,D.out.trans h.1⟩
        clear cb;go_wp2_with fail
        go_region_dies
        all_goals (go_wp2_with fail;refine (I _ (by rfl) (by rfl) (by rfl) (by rfl)).mono ?_;rintro e w4 ⟨rfl,H⟩;exact ⟨rfl,H,rfl⟩)
       ·have bq:=(Ze F).1 _ _ _ _ a6 X
        have bs:=Yv a6;have ak:a1.length<ZO r wr:=by rw [az];simp only [List.length_cons];omega
        have HT:Hid (UJ f3 (.mk 8 [] 0 [e,x3] e.line) a1=some res):=O
        have I:∀W:World,W.heap=wE.heap→W.os=wE.os→W.tape=wE.tape→W.output=wE.output→Calls Tryz.prog 42 #[.pointer (some ⟨r,0,none⟩)] W fun e' w'=>∃(a3:Int) (b3:ByteArray) (c3:Int) (u0:Option Addr) (u1 u2:Nat) (l3:Int),e'=.returned (.agg #[.int .i64 a3,.string b3,.int .i64 c3,.slice u0 u1 u2,.int .i64 l3]) ∧
          w'.heap[N]?=some (.cells #[.int .i64 Z,.string b2,.int .i64 c2,.slice p2 q2 s2,.int .i64 (e.line:Int)] 45 (0,0))∧Hid (zc r wE w'∧ZI wE.heap.size w' x3 (.agg #[.int .i64 a3,.string b3,.int .i64 c3,.slice u0 u1 u2,.int .i64 l3])∧∃o cap,zf r g o cap a1 w'):=fun W e1 e2 e3 e4=>(cb W e1 e2 e3 e4).mono fun e' w' h=>by
         obtain ⟨H,-,v,o4,a8,rfl,hx,ab⟩:=h;obtain ⟨a3,b3,c3,u0,u1,u2,l3,rfl⟩:=hx.agg;exact ⟨a3,b3,c3,u0,u1,u2,l3,rfl,(H.block N L (by omega)).trans af.out,H,(by rw [←e1];exact hx:ZI wE.heap.size w' x3 _),o4,a8,ab⟩
        clear cb O;go_wp2_with fail
        go_cut [] from 6 to 28 (fun wx=>ZS r g N F w res UJ wx∧ZO r wx<ZO r wr)
        case first =>
         go_region_with (go_at_call 42;refine (I _ (by rfl) (by rfl) (by rfl) (by rfl)).mono ?_;rintro e' w7 ⟨a3,b3,c3,u0,u1,u2,l3,rfl,p7,H7⟩;have aY:N<w7.heap.size:=(Array.getElem?_eq_some_iff.1 p7).1;have ar:=(fun ob=>(Below.heap_alloc w7 ob N aY).trans p7);obtain ⟨m0,m1,m2,m3,m4,mf⟩:=zU p7;have aO:=zl m0;have aL:=zl m1;have aH:=zl m2;have aK:=zl m3;have aR:=zl m4;have aN:=(fun ob j=>(zU (ar ob)).2.2.2.2.2 j))
         all_goals
          obtain ⟨ae,bd,o7,bz,A⟩:=H7.out;obtain ⟨W,hW⟩:∃W,W=(set5 w7 N (.int .i64 8) (.string ⟨#[]⟩) (.int .i64 0) (.slice (some ⟨w7.heap.size,0,none⟩) 2 2) (.int .i64 (e.line:Int))).alloc (.cells #[.int .i64 Z,.string b2,.int .i64 c2,.slice p2 q2 s2,.int .i64 (e.line:Int),.int .i64 a3,.string b3,.int .i64 c3,.slice u0 u1 u2,.int .i64 l3] 45):=⟨_,rfl⟩;obtain ⟨hJ,G⟩:=ZS.two (p:=UJ) 8 [] hr aA au L ad.out J.out Y.out ae p7 V.out bd A aX HT.out bq A.few (.int .i64 8) rfl W hW;have ax:Hid (ZS r g N F w res UJ W∧ZO r W<ZO r wr):=show _∧_<_ from ⟨hJ,by rw [G];exact ak⟩
          change Exit.then _ _ _ _ ((set5 w7 N (.int .i64 8) (.string ⟨#[]⟩) (.int .i64 0) (.slice (some ⟨w7.heap.size,0,none⟩) 2 2) (.int .i64 (e.line:Int))).alloc (.cells #[.int .i64 Z,.string b2,.int .i64 c2,.slice p2 q2 s2,.int .i64 (e.line:Int),.int .i64 a3,.string b3,.int .i64 c3,.slice u0 u1 u2,.int .i64 l3] 45))
          rw [←hW];clear hW hJ G A bd ae p7 ar m0 m1 m2 m3 m4 mf aO aL aH aK aR aN n0 n1 n2 n3 n4 nf I H7 af V HT Y D ad J aa bs ak bq X;go_wp2_with fail
          go_meet
          exact ax.out
        case rest =>
         obtain ⟨⟨e5,bF,o5,aU,f5,a5,b5,c5,p5,q5,s5,l5,br,ag,a0,bG,aj,aZ,ao,aE,aV⟩,bC⟩:=hcut;obtain ⟨t5,bi,rfl⟩:=a0.cons;have cn:=yI r g o5 aU t5 bi [93] wc ao (fun hi=>(a0.tail (zk hi)).ne)
         have aC:=ao.left
         unfold UJ zR at ag
         simp only [zC,List.tail_cons] at ag
         by_cases hm:zm t5 [93]=true
         ·simp only [if_pos hm] at cn
          rw [if_pos hm] at ag
          have a7:Hid (∀W,zc r wc W→zf r g (o5+5) (aU-1) bi W→ZS r g N F w res (fun f e ts=>zx f e ts) W∧ZO r W<ZO r wr):=fun W hK hR =>
           ⟨ZS.moved (p:=fun f e ts=>zx f e ts) hr au aj aZ aE aV hK hR br ag (a0.tail (zk hm)),by rw [hR.left];simp only [List.length_cons] at aC;omega⟩
          clear ag aj aZ ao aE aV I HT ad J aa Y D af V n0 n1 n2 n3 n4 nf;go_wp2_with fail
          refine cn.mono ?_;clear cn;rintro e9 w9 ⟨aG,rfl,bo⟩;have bu:Hid (ZS r g N F w res (fun f e ts=>zx f e ts) w9∧ZO r w9<ZO r wr):=a7.out w9 aG bo
          clear a7 aG bo;go_wp2
          exact bu.out
         ·simp only [if_neg hm] at cn
          rw [if_neg hm] at ag;simp only [zh,Option.some.injEq] at ag;subst ag;have bw:Hid (zc r w wc):=aE;clear aj aZ ao aE aV I HT ad J aa Y D af V n0 n1 n2 n3 n4 nf;go_wp2_with fail
          refine cn.mono ?_;clear cn;rintro e9 w9 ⟨aG,rfl⟩;exact ⟨rfl,bw.out.trans aG,rfl⟩
     ·have bt:zm t2 [91]=false:=by simpa using hi
      rw [bt] at cs;rw [if_neg hi] at O;go_wp2_with fail
      refine cs.mono ?_;clear cs;rintro e' wB ⟨rfl,bn,bp⟩;have aT:zf r g o2 y (t2::R) wB:=by simpa using bp
      have cd:=Zy r g o2 y t2 R [46] wB aT (fun hi=>(aa.out.tail (zk hi)).ne)
      have aP:Hid (zc r wr wB):=bn;clear bn bp aT
      by_cases hd:zm t2 [46]=true
      ·rw [hd] at cd
       rw [if_pos hd] at O;have X:=aa.out.tail (zk hd);obtain ⟨U,Q,rfl⟩:=X.cons;go_wp2_with fail
       refine cd.mono ?_;clear cd;rintro e' wE ⟨rfl,ai,av⟩;have am:zc r wr wE:=aP.out.trans ai;have aS:zf r g (o2+5) (y-1) (U::Q) wE:=by simpa using av
       obtain ⟨pN,pz⟩:=ah.out wE am;have Y:Hid (zc r wr wE):=am;have D:Hid (zc r w wE):=J.out.trans am;have L:N<wE.heap.size:=(Array.getElem?_eq_some_iff.1 pN).1;have aq:Hid (zf r g (o2+5) (y-1) (U::Q) wE):=aS;obtain ⟨n0,n1,n2,n3,n4,nf⟩:=zU pN;have bj:=zl n0;have bm:=zl n1;have a9:=zl n2;have bk:=zl n3;have bf:=zl n4;have af:Hid (wE.heap[N]?=some (.cells #[.int .i64 Z,.string b2,.int .i64 c2,.slice p2 q2 s2,.int .i64 (e.line:Int)] 45 (0,0))):=pN;have V:Hid (wE.heap[w.heap.size]?=some Zz):=pz
       have cb:∀W:World,zc r wE W→zf r g (o2+5) (y-1) (U::Q) W→Calls Tryz.prog 92 #[.pointer (some ⟨r,0,none⟩)] W fun e w'=>zc r W w'∧if U.k=1 then e=.returned (.string (zb U.s))∧zf r g (o2+5+5) (y-1-1) Q w' else e=ZG U.at0:=fun W hK hR =>
        xu r g _ _ U Q W hR (fun hk=>(X.tail (by omega)).ne)
       simp only [Z6,zC,List.tail_cons] at O;clear pN pz av aS ai am aP ah aM an
       by_cases h3:U.k=1
       ·rw [if_pos h3] at O
        have aF:=X.tail (by omega:U.k≠0)
        have ak:Q.length<ZO r wr:=by rw [az];simp only [List.length_cons];omega
        have HT:Hid (zx f3 (.mk 9 U.s 0 [e] e.line) Q=some res):=O
        have I:∀W:World,zc r wE W→zf r g (o2+5) (y-1) (U::Q) W→Calls Tryz.prog 92 #[.pointer (some ⟨r,0,none⟩)] W fun e' w'=>e'=.returned (.string (zb U.s))∧w'.heap[N]?=some (.cells #[.int .i64 Z,.string b2,.int .i64 c2,.slice p2 q2 s2,.int .i64 (e.line:Int)] 45 (0,0))∧W.heap.size≤w'.heap.size∧Hid (zc r W w'∧zf r g (o2+5+5) (y-1-1) Q w'):=fun W hK hR=>(cb W hK hR).mono fun e' w' h=>by
         obtain ⟨H,z⟩:=h;rw [if_pos h3] at z;obtain ⟨rfl,ab⟩:=z;exact ⟨rfl,(H.block N (Nat.lt_of_lt_of_le L hK.size) (by omega)).trans ((hK.block N L (by omega)).trans af.out),H.size,H,ab⟩
        clear cb O;go_wp2_with fail
        go_region_with (go_at_call 92;refine (I _ (by first | exact zc.drew r wE | exact ((zc.refl r wE).alloc _).trans (zc.drew _ _)) (by first | exact aq.out.keep rfl rfl | exact (aq.out.alloc _).keep rfl rfl)).mono ?_;rintro e' w7 ⟨rfl,p7,bB,H7⟩;have aY:N<w7.heap.size:=(Array.getElem?_eq_some_iff.1 p7).1;have ar:=(fun ob=>(Below.heap_alloc w7 ob N aY).trans p7);obtain ⟨m0,m1,m2,m3,m4,mf⟩:=zU p7;have aO:=zl m0;have aL:=zl m1;have aH:=zl m2;have aK:=zl m3;have aR:=zl m4;have aN:=(fun ob j=>(zU (ar ob)).2.2.2.2.2 j))
        all_goals (obtain ⟨ap,A⟩:=H7.out)
        all_goals first
         | (have ae:zc r wE w7:=(zc.drew r wE).trans ap
            obtain ⟨W,hW⟩:∃W,W=(set5 w7 N (.int .i64 9) (.string (zb U.s)) (.int .i64 0) (.slice (some ⟨w7.heap.size,0,none⟩) 1 1) (.int .i64 (e.line:Int))).alloc (.cells #[.int .i64 Z,.string b2,.int .i64 c2,.slice p2 q2 s2,.int .i64 (e.line:Int)] 45):=⟨_,rfl⟩;obtain ⟨hJ,G⟩:=ZS.one (p:=fun f e ts=>zx f e ts) 9 U.s hr aA au L ad.out J.out Y.out ae p7 V.out A aX HT.out aF A.few (.int .i64 9) rfl W hW
            have ax:Hid (ZS r g N F w res (fun f e ts=>zx f e ts) W∧ZO r W<ZO r wr):=show _∧_<_ from ⟨hJ,by rw [G];exact ak⟩
            change Exit.inBlock _ _ _ _ ((set5 w7 N (.int .i64 9) (.string (zb U.s)) (.int .i64 0) (.slice (some ⟨w7.heap.size,0,none⟩) 1 1) (.int .i64 (e.line:Int))).alloc (.cells #[.int .i64 Z,.string b2,.int .i64 c2,.slice p2 q2 s2,.int .i64 (e.line:Int)] 45))
            rw [←hW];clear hW hJ G A ae ap p7 ar m0 m1 m2 m3 m4 mf aO aL aH aK aR aN n0 n1 n2 n3 n4 nf bj bm a9 bk bf I H7 af V HT Y D ad J aa ak aF X aq;go_wp2
            exact ax.out)
         | (have ae:zc r (wE.alloc (.cells #[.int .i64 Z,.string b2,.int .i64 c2,.slice p2 q2 s2,.int .i64 (e.line:Int)] 45)) w7:=(zc.drew r (wE.alloc (.cells #[.int .i64 Z,.string b2,.int .i64 c2,.slice p2 q2 s2,.int .i64 (e.line:Int)] 45))).trans ap
            obtain ⟨W,hW⟩:∃W,W=set5 w7 N (.int .i64 9) (.string (zb U.s)) (.int .i64 0) (.slice (some ⟨wE.heap.size,0,none⟩) 1 1) (.int .i64 (e.line:Int)):=⟨_,rfl⟩;obtain ⟨hJ,G⟩:=ZS.one' (p:=fun f e ts=>zx f e ts) 9 U.s hr aA au L ad.out J.out Y.out ae p7 V.out A aX HT.out aF (.int .i64 9) rfl W hW
            have ax:Hid (ZS r g N F w res (fun f e ts=>zx f e ts) W∧ZO r W<ZO r wr):=show _∧_<_ from ⟨hJ,by rw [G];exact ak⟩
            change Exit.inBlock _ _ _ _ (set5 w7 N (.int .i64 9) (.string (zb U.s)) (.int .i64 0) (.slice (some ⟨wE.heap.size,0,none⟩) 1 1) (.int .i64 (e.line:Int)))
            rw [←hW];clear hW hJ G A ae ap p7 ar m0 m1 m2 m3 m4 mf aO aL aH aK aR aN n0 n1 n2 n3 n4 nf bj bm a9 bk bf I H7 af V HT Y D ad J aa ak aF X aq;go_wp2
            exact ax.out)
       ·rw [if_neg h3] at O
        simp only [zh,Option.some.injEq] at O;subst O
        have I:∀W:World,zc r wE W→zf r g (o2+5) (y-1) (U::Q) W→Calls Tryz.prog 92 #[.pointer (some ⟨r,0,none⟩)] W fun e w'=>e=ZG U.at0∧zc r w w':=fun W hK hR=>(cb W hK hR).mono fun e w' h=>by
         obtain ⟨H,z⟩:=h;rw [if_neg h3] at z;exact ⟨z,D.out.trans (hK.trans H)⟩
        clear cb;go_wp2_with fail
        go_region_dies
        all_goals
         go_wp2_with fail
         refine (I _ ?_ ?_).mono ?_
         ·first | exact zc.drew r wE | exact ((zc.refl r wE).alloc _).trans (zc.drew _ _)
         ·first | exact aq.out.keep rfl rfl | exact (aq.out.alloc _).keep rfl rfl
         ·rintro e w4 ⟨rfl,H⟩;exact ⟨rfl,H,rfl⟩
      ·have bv:zm t2 [46]=false:=by simpa using hd
       rw [bv] at cd;rw [if_neg hd] at O;simp only [Option.some.injEq] at O;subst O;go_wp2_with fail
       refine cd.mono ?_;clear cd;rintro e' wC ⟨rfl,bh,ba⟩;obtain ⟨pN,pz,bb⟩:=aM.out wC (aP.out.trans bh) (by simpa using ba)
       obtain ⟨n0,n1,n2,n3,n4,nf⟩:=zU pN;obtain ⟨q0,q1,bA,q3,q4,qf⟩:=zU pz;obtain ⟨z0,z1,z2,z3,z4⟩:=zY pz (.int .i64 Z) (.string b2) (.int .i64 c2) (.slice p2 q2 s2) (.int .i64 (e.line:Int));have bx:Hid (zJ r g w (.ok (e,t2::R)) (.returned (.agg #[.int .i64 Z,.string b2,.int .i64 c2,.slice p2 q2 s2,.int .i64 (e.line:Int)])) (set5 wC w.heap.size (.int .i64 Z) (.string b2) (.int .i64 c2) (.slice p2 q2 s2) (.int .i64 (e.line:Int)))):=bb;clear aM an ad J aa bb pN pz bh ba aP ah;go_wp2
       exact bodyPost_ret (v:=.agg #[.int .i64 Z,.string b2,.int .i64 c2,.slice p2 q2 s2,.int .i64 (e.line:Int)]) (by simp [results,Tryz.results146,go_sem,z0,z1,z2,z3,z4]) rfl bx.out
theorem zfn (r g:Nat) (hrl:r≠1):∀f,uc r g f:=by
 intro f
 induction f with
 | zero=>exact ⟨fun _ _ _ _ _ _ h=>by simp [zg] at h,fun _ _ _ _ _ h=>by simp [Zm] at h,fun _ _ _ _ _ h=>by simp [zH] at h,fun _ _ _ _ _ h=>by simp [Z1] at h,fun _ _ _ _ _ h=>by simp [zG] at h⟩
 | succ f C =>
  refine C.next hrl (fun o cap least ts w res h hE hl h6 hp=>?_) (fun o cap ts w res h hE hl hp=>?_)
  ·refine zd6 r g o cap f least ts w res h hE h.few hl hrl h6 hp fun w1 o1 cap1 ts1 r1 hb hE1 _ hR hK=>?_
   have:=C.between (least+1) w1 o1 cap1 ts1 r1 hb hE1 hR (hl.kept hK hrl)
   simpa using this
  ·exact zgZ r g o cap f ts w res h hE hp (fun w1 o1 cap1 ts1 r1 hb hE1 hR hK=>C.single w1 o1 cap1 ts1 r1 hb hE1 hR (hl.kept hK hrl)) fun w1 o1 cap1 ts1 r1 hb hE1 hR hK=>C.expr hrl w1 o1 cap1 ts1 r1 hb hE1 hR (hl.kept hK hrl)
structure zif (r g f:Nat):Prop where
 stmt:∀w o cap ts res,Zg f ts=some res→zi ts→zf r g o cap ts w→ZA w→Calls Tryz.prog 134 #[.pointer (some ⟨r,0,none⟩)] w (ZF r g w res)
 block:∀w o cap ts res,zI f ts=some res→zi ts→zf r g o cap ts w→ZA w→Calls Tryz.prog 98 #[.pointer (some ⟨r,0,none⟩)] w (XY r g w res)
theorem zig (r g:Nat) (hrl:r≠1):∀f,zif r g f:=by
 intro f
 induction f with
 | zero=>exact ⟨fun _ _ _ _ _ h=>by simp [Zg] at h,fun _ _ _ _ _ h=>by simp [zI] at h⟩
 | succ f C =>
  refine ⟨fun w o cap ts res hp hE h hl=>?_,fun w o cap ts res hp hE h hl=>?_⟩
  ·exact zbe r g o cap f ts w res h hE hp (fun w1 o1 cap1 ts1 r1 hb hE1 hR hK=>(zfn r g hrl f).expr hrl w1 o1 cap1 ts1 r1 hb hE1 hR (hl.kept hK hrl)) (fun w1 o1 cap1 ts1 r1 hb hE1 hR hK=>C.block w1 o1 cap1 ts1 r1 hb hE1 hR (hl.kept hK hrl))
  ·exact zgO r g o cap f ts w res h hE hp (fun w1 o1 cap1 ts1 r1 hb hE1 hR hK=>C.stmt w1 o1 cap1 ts1 r1 hb hE1 hR (hl.kept hK hrl))
end Go.Proofs.YtcphojjpapgblaaGreatDoor
