import Derived.Test.YtmbofhpmockmbaaGreatDoorMC27
import Derived.Test.YtmbofhpmockmbaaGreatDoorSParts
namespace Go.Proofs.YtmbofhpmockmbaaGreatDoor
open Go.RowKit Go.Shelf
set_option maxHeartbeats 16000000
set_option maxRecDepth 100000
def sg2 (i:Nat):List UInt8:=if i=0 then [45] else [33]
theorem V4 {F i:Nat} {σ:RS} {q:Ex × RS} (h:ZL (F+1) σ=some q) (hi:i<2) (hs:zU (sg2 i) σ=true) (hno:∀j,j<i→zU (sg2 j) σ=false):∃q',ZL F (false,σ.2.tail)=some q'∧q=(.mk 6 (sg2 i) 0 [q'.1] (zu σ.2).line,q'.2):=by
 rw [ZL] at h;have D:i=0∨i=1:=by omega
 rcases D with rfl | rfl
 ·have A:zU [45] σ=true:=hs
  rw [if_pos A] at h;obtain ⟨y,o,e⟩:=Option.bind_eq_some_iff.1 h;exact ⟨y,o,(Option.some.inj e).symm⟩
 ·have E:zU [45] σ=false:=hno 0 (by omega)
  have z:zU [33] σ=true:=hs;rw [if_neg (by simp [E]),if_pos z] at h
  obtain ⟨y,o,e⟩:=Option.bind_eq_some_iff.1 h;exact ⟨y,o,(Option.some.inj e).symm⟩
theorem V5 {F:Nat} {σ:RS} {q:Ex × RS} (h:ZL (F+1) σ=some q) (hno:∀j,j<2→zU (sg2 j) σ=false):∃q1,yb F σ=some q1∧zV F q1.1 q1.2=some q:=by
 rw [ZL] at h;have e:zU [45] σ=false:=hno 0 (by omega)
 have o:zU [33] σ=false:=hno 1 (by omega)
 rw [if_neg (by simp [e]),if_neg (by simp [o])] at h
 exact Option.bind_eq_some_iff.1 h
theorem zL.one {r g B:Nat} {w w7:World} {σ:RS} {x:Ex} {a:Int} {b:ByteArray} {c:Int} {d0:Option Addr} {d1 d2:Nat} {l:Int} (k:Nat) (s:List UInt8) (n:Int) (line:Nat) (hK:zb r w w7) (hr:r<w.heap.size) (hg:g<w.heap.size) (hx:zM B w7 x (.agg #[.int .i64 a,.string b,.int .i64 c,.slice d0 d1 d2,.int .i64 l])) (hB:w.heap.size<B) (hB7:B≤w7.heap.size) (hrd:zB r g σ w7) :
  zL r g w (.mk k s n [x] line,σ) (.returned (.agg #[.int .i64 k,.string (za s),.int .i64 n,.slice (some ⟨w7.heap.size,0,none⟩) 1 1,.int .i64 line])) (set5 (w7.alloc (.cells #[.int .i64 a,.string b,.int .i64 c,.slice d0 d1 d2,.int .i64 l] 90)) w.heap.size (.int .i64 k) (.string (za s)) (.int .i64 n) (.slice (some ⟨w7.heap.size,0,none⟩) 1 1) (.int .i64 line)):=by
 have e:=zI.one 90 (c:=[.int .i64 a,.string b,.int .i64 c,.slice d0 d1 d2,.int .i64 l]) hx rfl (by omega)
 exact zL.of_set5 (B:=B) k s n line (hK.alloc _) (Nat.le_refl _) hr hg e hB (hrd.alloc _)
theorem Q3 (r g F:Nat) (σ:RS) (w:World) (q:Ex × RS) (h:zB r g σ w) (hq:ZL (F+1) σ=some q) (hun:xA r g F) (hsi:XH r g F) (hex:Yd r g F) :
  Calls Tryz.prog 112 #[.pointer (some ⟨r,0,none⟩)] w (zL r g w q):=by
 obtain ⟨hr,hg⟩:=h.lt;have ct:=x8 r g σ (w.alloc zJ) (h.alloc _);obtain ⟨t,ht⟩:∃t,t=zu σ.2:=⟨_,rfl⟩;rw [←ht] at ct;have HH:Hid (zB r g σ w):=h;have HQ:Hid (ZL (F+1) σ=some q):=hq;have aP:Hid (xA r g F):=hun;have aT:Hid (XH r g F):=hsi;have ab:Hid (Yd r g F):=hex;have HT:Hid (t=zu σ.2):=ht;clear h hq hun hsi hex ht
 go_enter Tryz.func112,Tryz.ntmps112
 go_wp2_with fail
 refine ct.mono ?_;clear ct;rintro e R ⟨rfl,av⟩;obtain ⟨SBx,aV⟩:∃SBx,SBx=R.heap.size:=⟨_,rfl⟩;have bo:(w.alloc zJ).heap.size=w.heap.size+1:=by simp
 have aL:=av.size
 have a8:Hid (zb r w (R.alloc (yR [[45],[33]]))∧zB r g σ (R.alloc (yR [[45],[33]]))∧(R.alloc (yR [[45],[33]])).heap[w.heap.size]?=some zJ∧(R.alloc (yR [[45],[33]])).heap[SBx]?=some (yR [[45],[33]])):=by
  refine ⟨(((zb.refl r w).alloc _).trans (zb.of av)).alloc _,((HH.out.alloc _).below av).alloc _,?_,?_⟩
  ·rw [Below.heap_alloc _ _ _ (by omega),av.block _ (by omega)]
   exact World.alloc_heap_new _ _
  ·rw [aV];exact World.alloc_heap_new _ _
 have bu:r≠SBx:=by omega
 have ax:=xk;simp only [YH];go_wp2_with fail
 rw [←aV];clear av HH aV aL bo
 go_loopw [5,12] (fun _ vi wr=>∃i:Nat,i≤2∧vi=.int .i64 (i:Int)∧(∀j,j<i→zU (sg2 j) σ=false)∧zb r w wr∧zB r g σ wr∧wr.heap[w.heap.size]?=some zJ∧wr.heap[SBx]?=some (yR [[45],[33]])) (fun _ vi _=>2-(intOf vi).toNat)
 case atStart=>exact ⟨0,by omega,rfl,fun j hj=>absurd hj (Nat.not_lt_zero _),a8.out⟩
 case round =>
  clear a8;obtain ⟨i,hi,rfl,a4,aZ,hR,hz,ay⟩:=hrel;have ah:Hid (zb r w wr):=aZ;have HR:Hid (zB r g σ wr):=hR;have HZ:Hid (wr.heap[w.heap.size]?=some zJ):=hz;have al:Hid (wr.heap[SBx]?=some (yR [[45],[33]])):=ay;have am:Hid (∀j,j<i→zU (sg2 j) σ=false):=a4;clear a4 aZ hz
  by_cases ao:i<2
  ·have bv:(i:Int)<2:=by omega
   have c1:wr.cell? ⟨SBx,i,none⟩=some (.string (za (sg2 i))):=by
    have h9:=vV ay i (by simpa using ao)
    have hc:i=0∨i=1:=by omega
    rcases hc with rfl | rfl <;> exact h9
   have ct:=ym r g σ (sg2 i) wr hR;clear hR ay;cases hs:zU (sg2 i) σ
   ·rw [hs] at ct
    have o:ZB (sg2 i) σ=σ:=by unfold ZB;rw [if_neg (by simp [hs])]
    rw [o] at ct
    have bl:Hid (∀j,j<i+1→zU (sg2 j) σ=false):=fun j hj=>by
     rcases Nat.lt_or_ge j i with h9 | h9
     ·exact am.out j h9
     ·obtain rfl:j=i:=by omega
      exact hs
    generalize sg2 i=s at *;go_wp2_with fail
    refine ct.mono ?_;clear ct c1;rintro e R ⟨rfl,y,au⟩
    have HJ:Hid (zb r w R∧zB r g σ R∧R.heap[w.heap.size]?=some zJ∧R.heap[SBx]?=some (yR [[45],[33]])) :=
     ⟨ah.out.trans y,au,(y.block _ (Array.getElem?_eq_some_iff.1 HZ.out).1 (by omega)).trans HZ.out,(y.block _ (Array.getElem?_eq_some_iff.1 al.out).1 (by omega)).trans al.out⟩
    clear y au ah HR HZ al;go_wp2
    exact ⟨⟨i+1,by omega,by go_num,bl.out,HJ.out⟩,by simp [intOf];omega⟩
   ·rw [hs] at ct
    have o:ZB (sg2 i) σ=(false,σ.2.tail):=by unfold ZB;rw [if_pos hs]
    rw [o] at ct;obtain ⟨q',ap,ar⟩:=V4 HQ.out ao hs am.out;generalize sg2 i=s at *;rw [←HT.out] at ar;subst ar;go_wp2_with fail
    refine ct.mono ?_;clear ct c1;rintro e R ⟨rfl,y,au⟩;have cu:=aP.out F (Nat.le_refl _) _ q' R ap au;go_wp2_with fail
    refine cu.mono ?_;clear cu;rintro e w7 ⟨z,v,rfl,aj,bc⟩;obtain ⟨a,b,c,d0,d1,d2,l,rfl⟩:=aj.agg;have aF:w.heap.size<wr.heap.size:=(Array.getElem?_eq_some_iff.1 HZ.out).1;have aL:=y.size;have aM:=z.size;have p7:w7.heap[w.heap.size]?=some zJ:=(z.block _ (by omega) (by omega)).trans ((y.block _ (by omega) (by omega)).trans HZ.out)
    have HP:Hid (zL r g w (.mk 6 s 0 [q'.1] t.line,q'.2) (.returned (.agg #[.int .i64 6,.string (za s),.int .i64 0,.slice (some ⟨w7.heap.size,0,none⟩) 1 1,.int .i64 t.line])) (set5 (w7.alloc (.cells #[.int .i64 a,.string b,.int .i64 c,.slice d0 d1 d2,.int .i64 l] 90)) w.heap.size (.int .i64 6) (.string (za s)) (.int .i64 0) (.slice (some ⟨w7.heap.size,0,none⟩) 1 1) (.int .i64 t.line))) :=
     zL.one 6 s 0 t.line ((ah.out.trans y).trans z) hr hg aj (by omega) aM bc
    obtain ⟨y0,y1,y2,y3,y4,yf⟩:=zd p7;have bD:=zc y0;have bC:=zc y1;have bB:=zc y2;have bt:=zc y3;have bz:=zc y4;have L:=(fun ob=>(Below.heap_alloc w7 ob w.heap.size (by omega)).trans p7)
    have bx:=(fun ob j=>(zd (L ob)).2.2.2.2.2 j)
    obtain ⟨z0,z1,z2,z3,z4⟩:=zi (L (.cells #[.int .i64 a,.string b,.int .i64 c,.slice d0 d1 d2,.int .i64 l] 90)) (.int .i64 6) (.string (za s)) (.int .i64 0) (.slice (some ⟨w7.heap.size,0,none⟩) 1 1) (.int .i64 t.line);clear y au z aj bc p7 L aF aL aM ah HR HZ al am aP aT ab ap HQ;go_wp2
    exact bodyPost_ret (v:=.agg #[.int .i64 6,.string (za s),.int .i64 0,.slice (some ⟨w7.heap.size,0,none⟩) 1 1,.int .i64 t.line]) (by simp [results,Tryz.results112,go_sem,z0,z1,z2,z3,z4]) rfl HP.out
  ·obtain rfl:i=2:=by omega
   obtain ⟨q1,ap,ar⟩:=V5 HQ.out am.out;have c1:=aT.out F (Nat.le_refl _) σ q1 wr ap hR;have ba:Hid (zV F q1.1 q1.2=some q):=ar;clear hR ay ap ar HQ am aP aT;go_wp2_with fail
   refine c1.mono ?_;clear c1;rintro e R ⟨y,v,rfl,hx,ai⟩;obtain ⟨a,b,c,d0,d1,d2,l,rfl⟩:=hx.agg;have aF:w.heap.size<wr.heap.size:=(Array.getElem?_eq_some_iff.1 HZ.out).1
   have HJ:Hid (YQ r g R.heap.size F w q (fun f e σ=>zV f e σ) (R.alloc (.cells #[.int .i64 a,.string b,.int .i64 c,.slice d0 d1 d2,.int .i64 l] 90))) :=
    ⟨q1.1,q1.2,F,a,b,c,d0,d1,d2,l,Nat.le_refl _,ba.out,ZJ.start aF HZ.out ah.out hr y hx ai⟩
   have V:w.heap.size<R.heap.size:=by have:=y.size;omega
   obtain ⟨N,aW⟩:∃N,N=R.heap.size:=⟨_,rfl⟩;rw [←aW] at HJ V;clear hx ai y ba aF ah HR HZ al;go_wp2_with fail
   rw [←aW];generalize hW0:R.alloc (.cells #[.int .i64 a,.string b,.int .i64 c,.slice d0 d1 d2,.int .i64 l] 90)=W0 at *;clear hW0 aW
   go_loopw [34] (fun _ wr=>YQ r g N F w q (fun f e σ=>zV f e σ) wr) (fun _ wr=>ZC r wr)
   case atStart=>exact HJ.out
   case round =>
    clear HJ;obtain ⟨e,σ2,f2,G,J,K,I,E,H,l2,bA,hT,hC⟩:=hrel;obtain rfl:l2=(e.line:Int):=hC.ex.line_eq;obtain ⟨bd,ts⟩:=σ2;have HC:Hid (ZJ r g N w e (bd,ts) G J K I E H (e.line:Int) wr):=hC;have Q:Hid (ZC r wr=ts.length):=hC.rd.left
    obtain ⟨f3,rfl⟩:∃f3,f2=f3+1:=by
     cases f2 with
     | zero=>simp [zV] at hT
     | succ f3=>exact ⟨f3,rfl⟩
    replace hT:zV (f3+1) e (bd,ts)=some q:=hT;rw [zV] at hT
    have M:Hid (zU [91] (bd,ts)=false→zU [46] (bd,ts)=false→∀W,zb r wr W→zB r g (bd,ts) W→W.heap[N]?=some (.cells #[.int .i64 G,.string J,.int .i64 K,.slice I E H,.int .i64 (e.line:Int)] 90 (0,0))∧W.heap[w.heap.size]?=some zJ ∧
      zL r g w q (.returned (.agg #[.int .i64 G,.string J,.int .i64 K,.slice I E H,.int .i64 (e.line:Int)])) (set5 W w.heap.size (.int .i64 G) (.string J) (.int .i64 K) (.slice I E H) (.int .i64 (e.line:Int)))):=by
     intro h1 h2 W hK hR;rw [if_neg (by simp [h1]),if_neg (by simp [h2])] at hT
     obtain rfl:=Option.some.inj hT;exact HC.out.leave hr hg V hK hR
    have aR:=hC.rd;obtain ⟨pp,bw,TS,hb⟩:=hC.rd;obtain ⟨m0,m1,m2,mf⟩:=z7 hb.blk;clear hb hC;cases bd
    ·have cs:=ym r g (false,ts) [91] wr aR
     clear aR;cases hi:zU [91] (false,ts)
     ·rw [hi] at cs
      have o:ZB [91] (false,ts)=(false,ts):=by unfold ZB;rw [if_neg (by simp [hi])]
      rw [o] at cs;rw [if_neg (by simp [hi])] at hT
      go_wp2_with fail
      refine cs.mono ?_;clear cs m0 m1 m2 mf;rintro e' wB ⟨rfl,bf,a0⟩;have cd:=ym r g (false,ts) [46] wB a0;have aK:Hid (zb r wr wB):=bf;clear bf a0;cases hd:zU [46] (false,ts)
      ·rw [hd] at cd
       have o:ZB [46] (false,ts)=(false,ts):=by unfold ZB;rw [if_neg (by simp [hd])]
       rw [o] at cd;go_wp2_with fail
       refine cd.mono ?_;clear cd;rintro e' wC ⟨rfl,bm,bi⟩;obtain ⟨pN,pz,aw⟩:=M.out hi hd wC (aK.out.trans bm) bi;obtain ⟨n0,n1,n2,n3,n4,nf⟩:=zd pN;obtain ⟨br,bj,bp,bn,bk,zf⟩:=zd pz;obtain ⟨z0,z1,z2,z3,z4⟩:=zi pz (.int .i64 G) (.string J) (.int .i64 K) (.slice I E H) (.int .i64 (e.line:Int));have aO:Hid (zL r g w q (.returned (.agg #[.int .i64 G,.string J,.int .i64 K,.slice I E H,.int .i64 (e.line:Int)])) (set5 wC w.heap.size (.int .i64 G) (.string J) (.int .i64 K) (.slice I E H) (.int .i64 (e.line:Int)))):=aw;clear aw pN pz M HC Q ab;go_wp2
       exact bodyPost_ret (v:=.agg #[.int .i64 G,.string J,.int .i64 K,.slice I E H,.int .i64 (e.line:Int)]) (by simp [results,Tryz.results112,go_sem,z0,z1,z2,z3,z4]) rfl aO.out
      ·rw [hd] at cd
       have o:ZB [46] (false,ts)=(false,ts.tail):=by unfold ZB;rw [if_pos hd]
       rw [o] at cd;rw [if_pos hd] at hT;obtain ⟨-,aS,U⟩:=xz hd;have X:=yw U;go_wp2_with fail
       refine cd.mono ?_;clear cd;rintro e' wE ⟨rfl,af,Y⟩;have ak:zb r wr wE:=aK.out.trans af;have O:=HC.out.moved hr V ak Y;have T:Hid (zb r wr wE):=ak;have ae:N<wE.heap.size:=(Array.getElem?_eq_some_iff.1 O.blk).1;have an:Hid (zB r g (false,ts.tail) wE):=Y;have Z:Hid (wE.heap[N]?=some (.cells #[.int .i64 G,.string J,.int .i64 K,.slice I E H,.int .i64 (e.line:Int)] 90 (0,0))):=O.blk;obtain ⟨n0,n1,n2,n3,n4,nf⟩:=zd O.blk;have bh:=zc n0;have be:=zc n1;have aX:=zc n2;have a6:=zc n3;have bb:=zc n4;have aU:=xM (false,ts.tail);obtain ⟨qn,aQ⟩:∃qn,qn=nameF (false,ts.tail):=⟨_,rfl⟩;rw [←aQ] at hT aU
       have aJ:∀W:World,zb r wE W→zB r g (false,ts.tail) W→Calls Tryz.prog 137 #[.pointer (some ⟨r,0,none⟩)] W fun e' w'=>e'=.returned (.string (za qn.1))∧w'.heap[N]?=some (.cells #[.int .i64 G,.string J,.int .i64 K,.slice I E H,.int .i64 (e.line:Int)] 90 (0,0))∧W.heap.size≤w'.heap.size∧Hid (zb r W w'∧zB r g qn.2 w'):=fun W hK hR=>(Qp r g (false,ts.tail) W hR).mono fun e' w' h=>by
        obtain ⟨h1,ag,ai⟩:=h;rw [aQ];exact ⟨h1,(ag.block N (Nat.lt_of_lt_of_le ae hK.size) (by omega)).trans ((hK.block N ae (by omega)).trans Z.out),ag.size,ag,ai⟩
       have aa:qn.2.2.length<ZC r wr:=by rw [Q.out];simp only at aU X;omega
       have HT:Hid (zV f3 (.mk 9 qn.1 0 [e] e.line) qn.2=some q):=hT;have ax:f3≤F:=by omega
       clear O Y af ak aK M ab hT aQ aU X aS U hd o hi;go_wp2_with fail
       go_region_with (go_at_call 137;refine (aJ _ (by first | exact zb.drew r wE | exact ((zb.refl r wE).alloc _).trans (zb.drew _ _)) (by first | exact an.out.keep rfl rfl | exact (an.out.alloc _).keep rfl rfl)).mono ?_;rintro e' w7 ⟨rfl,p7,aM,H7⟩;have aI:N<w7.heap.size:=(Array.getElem?_eq_some_iff.1 p7).1;have L:=(fun ob=>(Below.heap_alloc w7 ob N aI).trans p7);obtain ⟨m0,m1,m2,m3,m4,mf⟩:=zd p7;have aC:=zc m0;have aA:=zc m1;have az:=zc m2;have aE:=zc m3;have aD:=zc m4;have aB:=(fun ob j=>(zd (L ob)).2.2.2.2.2 j))
       all_goals (obtain ⟨ad,D⟩:=H7.out)
       all_goals first
        | (have z:zb r wE w7:=(zb.drew r wE).trans ad
           obtain ⟨W,hW⟩:∃W,W=(set5 w7 N (.int .i64 9) (.string (za qn.1)) (.int .i64 0) (.slice (some ⟨w7.heap.size,0,none⟩) 1 1) (.int .i64 (e.line:Int))).alloc (.cells #[.int .i64 G,.string J,.int .i64 K,.slice I E H,.int .i64 (e.line:Int)] 90):=⟨_,rfl⟩;have A:=ZJ.one 9 qn.1 HC.out hr hg V (T.out.trans z) D (.int .i64 9) rfl W hW;have aq:Hid (YQ r g N F w q (fun f e σ=>zV f e σ) W∧ZC r W<ZC r wr):=show _∧_<_ from ⟨⟨_,_,f3,_,_,_,_,_,_,_,ax,HT.out,A⟩,by rw [A.rd.left];exact aa⟩
           change Exit.inBlock _ _ _ _ ((set5 w7 N (.int .i64 9) (.string (za qn.1)) (.int .i64 0) (.slice (some ⟨w7.heap.size,0,none⟩) 1 1) (.int .i64 (e.line:Int))).alloc (.cells #[.int .i64 G,.string J,.int .i64 K,.slice I E H,.int .i64 (e.line:Int)] 90))
           rw [←hW];clear hW A D z ad p7 L m0 m1 m2 m3 m4 mf aC aA az aE aD aB n0 n1 n2 n3 n4 nf bh be aX a6 bb aJ H7 Z HT T HC aa an;go_wp2
           exact aq.out)
        | (have z:zb r (wE.alloc (.cells #[.int .i64 G,.string J,.int .i64 K,.slice I E H,.int .i64 (e.line:Int)] 90)) w7:=(zb.drew r (wE.alloc (.cells #[.int .i64 G,.string J,.int .i64 K,.slice I E H,.int .i64 (e.line:Int)] 90))).trans ad
           obtain ⟨W,hW⟩:∃W,W=set5 w7 N (.int .i64 9) (.string (za qn.1)) (.int .i64 0) (.slice (some ⟨wE.heap.size,0,none⟩) 1 1) (.int .i64 (e.line:Int)):=⟨_,rfl⟩;have A:=ZJ.one' wE 9 qn.1 HC.out hr hg V T.out z D (.int .i64 9) rfl W hW;have aq:Hid (YQ r g N F w q (fun f e σ=>zV f e σ) W∧ZC r W<ZC r wr):=show _∧_<_ from ⟨⟨_,_,f3,_,_,_,_,_,_,_,ax,HT.out,A⟩,by rw [A.rd.left];exact aa⟩
           change Exit.inBlock _ _ _ _ (set5 w7 N (.int .i64 9) (.string (za qn.1)) (.int .i64 0) (.slice (some ⟨wE.heap.size,0,none⟩) 1 1) (.int .i64 (e.line:Int)))
           rw [←hW];clear hW A D z ad p7 L m0 m1 m2 m3 m4 mf aC aA az aE aD aB n0 n1 n2 n3 n4 nf bh be aX a6 bb aJ H7 Z HT T HC aa an;go_wp2
           exact aq.out)
     ·rw [hi] at cs
      have o:ZB [91] (false,ts)=(false,ts.tail):=by unfold ZB;rw [if_pos hi]
      rw [o] at cs;rw [if_pos hi] at hT;obtain ⟨-,aS,U⟩:=xz hi;have X:=yw U;go_wp2_with fail
      refine cs.mono ?_;clear cs m0 m1 m2 mf;rintro e' wE ⟨rfl,af,Y⟩;have O:=HC.out.moved hr V af Y;have T:Hid (zb r wr wE):=af;have ae:N<wE.heap.size:=(Array.getElem?_eq_some_iff.1 O.blk).1;have Z:Hid (wE.heap[N]?=some (.cells #[.int .i64 G,.string J,.int .i64 K,.slice I E H,.int .i64 (e.line:Int)] 90 (0,0))):=O.blk;obtain ⟨n0,n1,n2,n3,n4,nf⟩:=zd O.blk;obtain ⟨q3,aN,bg⟩:=Option.bind_eq_some_iff.1 hT;have aH:=(Qi f3).1 _ _ _ aN
      have cb:∀W:World,W.heap=wE.heap→W.os=wE.os→W.tape=wE.tape→W.output=wE.output→Calls Tryz.prog 91 #[.pointer (some ⟨r,0,none⟩),.int .i64 0] W fun e' w'=>∃(a3:Int) (b3:ByteArray) (c3:Int) (u0:Option Addr) (u1 u2:Nat) (l3:Int),e'=.returned (.agg #[.int .i64 a3,.string b3,.int .i64 c3,.slice u0 u1 u2,.int .i64 l3]) ∧
        w'.heap[N]?=some (.cells #[.int .i64 G,.string J,.int .i64 K,.slice I E H,.int .i64 (e.line:Int)] 90 (0,0))∧Hid (zb r wE w'∧zM wE.heap.size w' q3.1 (.agg #[.int .i64 a3,.string b3,.int .i64 c3,.slice u0 u1 u2,.int .i64 l3])∧zB r g q3.2 w'):=fun W e1 e2 e3 e4=>by
       refine (show Calls Tryz.prog 91 #[.pointer (some ⟨r,0,none⟩),.int .i64 0] W _ from ab.out f3 (by omega) 0 _ q3 W (by omega) aN (Y.as e1)).mono ?_
       rintro e' w' ⟨hk,v,rfl,hx,ai⟩;obtain ⟨a3,b3,c3,u0,u1,u2,l3,rfl⟩:=hx.agg;have ag:=hk.as e1 e2 e3 e4;rw [e1] at hx;exact ⟨a3,b3,c3,u0,u1,u2,l3,rfl,(ag.block N ae (by omega)).trans Z.out,ag,hx,ai⟩
      have aa:q3.2.2.length<ZC r wr:=by rw [Q.out];simp only at aH X;omega
      have HT:Hid (zV f3 (.mk 8 [] 0 [e,q3.1] e.line) (Za [93] q3.2)=some q):=bg;have ax:f3≤F:=by omega
      have an:Hid (zB r g (false,ts.tail) wE):=Y;clear O Y af M hT aN bg aH X aS U hi o;go_wp2_with fail
      go_cut [] from 28 to 55 (fun wx=>YQ r g N F w q (fun f e σ=>zV f e (Za [93] σ)) wx∧ZC r wx<ZC r wr)
      case first =>
       clear ab
       go_region_with (go_at_call 91;refine (cb _ (by rfl) (by rfl) (by rfl) (by rfl)).mono ?_;rintro e' w7 ⟨a3,b3,c3,u0,u1,u2,l3,rfl,p7,H7⟩;have aI:N<w7.heap.size:=(Array.getElem?_eq_some_iff.1 p7).1;have L:=(fun ob=>(Below.heap_alloc w7 ob N aI).trans p7);obtain ⟨m0,m1,m2,m3,m4,mf⟩:=zd p7;have aC:=zc m0;have aA:=zc m1;have az:=zc m2;have aE:=zc m3;have aD:=zc m4;have aB:=(fun ob j=>(zd (L ob)).2.2.2.2.2 j))
       all_goals
        obtain ⟨z,aj,D⟩:=H7.out;obtain ⟨W,hW⟩:∃W,W=(set5 w7 N (.int .i64 8) (.string ⟨#[]⟩) (.int .i64 0) (.slice (some ⟨w7.heap.size,0,none⟩) 2 2) (.int .i64 (e.line:Int))).alloc (.cells #[.int .i64 G,.string J,.int .i64 K,.slice I E H,.int .i64 (e.line:Int),.int .i64 a3,.string b3,.int .i64 c3,.slice u0 u1 u2,.int .i64 l3] 90):=⟨_,rfl⟩;have A:=ZJ.two 8 [] HC.out hr hg V T.out z aj D (.int .i64 8) rfl W hW;have aq:Hid (YQ r g N F w q (fun f e σ=>zV f e (Za [93] σ)) W∧ZC r W<ZC r wr):=show _∧_<_ from ⟨⟨_,_,f3,_,_,_,_,_,_,_,ax,HT.out,A⟩,by rw [A.rd.left];exact aa⟩
        change Exit.then _ _ _ _ ((set5 w7 N (.int .i64 8) (.string ⟨#[]⟩) (.int .i64 0) (.slice (some ⟨w7.heap.size,0,none⟩) 2 2) (.int .i64 (e.line:Int))).alloc (.cells #[.int .i64 G,.string J,.int .i64 K,.slice I E H,.int .i64 (e.line:Int),.int .i64 a3,.string b3,.int .i64 c3,.slice u0 u1 u2,.int .i64 l3] 90))
        rw [←hW];clear hW A D aj z p7 L m0 m1 m2 m3 m4 mf aC aA az aE aD aB n0 n1 n2 n3 n4 nf cb H7 Z HT T HC aa;go_wp2_with fail
        go_meet
        exact aq.out
      case rest =>
       obtain ⟨⟨e5,σ5,f5,a5,b5,c5,p5,q5,s5,l5,bq,a9,aG⟩,ao⟩:=hcut;have cn:=Vu r g σ5 [93] wc aG.rd
       have aY:Hid (∀W,zb r wc W→zB r g (Za [93] σ5) W→YQ r g N F w q (fun f e σ=>zV f e σ) W∧ZC r W<ZC r wr):=fun W hK hR =>
        ⟨⟨e5,_,f5,a5,b5,c5,p5,q5,s5,l5,bq,a9,aG.moved hr V hK hR⟩,by rw [hR.left];have h1:=Yl [93] σ5;rw [aG.rd.left] at ao;omega⟩
       clear a9 aG ao cb HT T HC Z n0 n1 n2 n3 n4 nf ab;go_wp2_with fail
       refine cn.mono ?_;clear cn;rintro e9 w9 ⟨rfl,a7,a1⟩;have bs:Hid (YQ r g N F w q (fun f e σ=>zV f e σ) w9∧ZC r w9<ZC r wr):=aY.out w9 a7 a1
       clear aY a7 a1;go_wp2
       exact bs.out
    ·obtain ⟨pN,pz,aw⟩:=M.out (by simp [zU]) (by simp [zU]) wr (zb.refl _ _) aR
     obtain ⟨n0,n1,n2,n3,n4,nf⟩:=zd pN;obtain ⟨br,bj,bp,bn,bk,zf⟩:=zd pz;obtain ⟨z0,z1,z2,z3,z4⟩:=zi pz (.int .i64 G) (.string J) (.int .i64 K) (.slice I E H) (.int .i64 (e.line:Int));have aO:Hid (zL r g w q (.returned (.agg #[.int .i64 G,.string J,.int .i64 K,.slice I E H,.int .i64 (e.line:Int)])) (set5 wr w.heap.size (.int .i64 G) (.string J) (.int .i64 K) (.slice I E H) (.int .i64 (e.line:Int)))):=aw;clear aw pN pz M HC Q ab;go_wp2
     exact bodyPost_ret (v:=.agg #[.int .i64 G,.string J,.int .i64 K,.slice I E H,.int .i64 (e.line:Int)]) (by simp [results,Tryz.results112,go_sem,z0,z1,z2,z3,z4]) rfl aO.out
end Go.Proofs.YtmbofhpmockmbaaGreatDoor
