import Derived.Test.YtmbofhpmockmbaaGreatDoorMC26
import Derived.Test.YtmbofhpmockmbaaGreatDoorSParts
namespace Go.Proofs.YtmbofhpmockmbaaGreatDoor
open Go.RowKit Go.Shelf
set_option maxHeartbeats 16000000
set_option maxRecDepth 100000
def sg2 (i:Nat):List UInt8:=if i=0 then [45] else [33]
theorem uv {F i:Nat} {σ:RS} {q:Ex × RS} (h:ZP (F+1) σ=some q) (hi:i<2) (hs:zW (sg2 i) σ=true) (hno:∀j,j<i→zW (sg2 j) σ=false):∃q',ZP F (false,σ.2.tail)=some q'∧q=(.mk 6 (sg2 i) 0 [q'.1] (zx σ.2).line,q'.2):=by
 rw [ZP] at h;have D:i=0∨i=1:=by omega
 rcases D with rfl | rfl
 ·have e:zW [45] σ=true:=hs
  rw [if_pos e] at h;obtain ⟨y,A,o⟩:=Option.bind_eq_some_iff.1 h;exact ⟨y,A,(Option.some.inj o).symm⟩
 ·have E:zW [45] σ=false:=hno 0 (by omega)
  have z:zW [33] σ=true:=hs;rw [if_neg (by simp [E]),if_pos z] at h
  obtain ⟨y,A,o⟩:=Option.bind_eq_some_iff.1 h;exact ⟨y,A,(Option.some.inj o).symm⟩
theorem uw {F:Nat} {σ:RS} {q:Ex × RS} (h:ZP (F+1) σ=some q) (hno:∀j,j<2→zW (sg2 j) σ=false):∃q1,ye F σ=some q1∧zX F q1.1 q1.2=some q:=by
 rw [ZP] at h;have e:zW [45] σ=false:=hno 0 (by omega)
 have o:zW [33] σ=false:=hno 1 (by omega)
 rw [if_neg (by simp [e]),if_neg (by simp [o])] at h
 exact Option.bind_eq_some_iff.1 h
theorem zN.one {r g B:Nat} {w w7:World} {σ:RS} {x:Ex} {a:Int} {b:ByteArray} {c:Int} {d0:Option Addr} {d1 d2:Nat} {l:Int} (k:Nat) (s:List UInt8) (n:Int) (line:Nat) (hK:zc r w w7) (hr:r<w.heap.size) (hg:g<w.heap.size) (hx:zO B w7 x (.agg #[.int .i64 a,.string b,.int .i64 c,.slice d0 d1 d2,.int .i64 l])) (hB:w.heap.size<B) (hB7:B≤w7.heap.size) (hrd:zD r g σ w7) :
  zN r g w (.mk k s n [x] line,σ) (.returned (.agg #[.int .i64 k,.string (za s),.int .i64 n,.slice (some ⟨w7.heap.size,0,none⟩) 1 1,.int .i64 line])) (set5 (w7.alloc (.cells #[.int .i64 a,.string b,.int .i64 c,.slice d0 d1 d2,.int .i64 l] 90)) w.heap.size (.int .i64 k) (.string (za s)) (.int .i64 n) (.slice (some ⟨w7.heap.size,0,none⟩) 1 1) (.int .i64 line)):=by
 have e:=zK.one 90 (c:=[.int .i64 a,.string b,.int .i64 c,.slice d0 d1 d2,.int .i64 l]) hx rfl (by omega)
 exact zN.of_set5 (B:=B) k s n line (hK.alloc _) (Nat.le_refl _) hr hg e hB (hrd.alloc _)
theorem zat (r g F:Nat) (σ:RS) (w:World) (q:Ex × RS) (h:zD r g σ w) (hq:ZP (F+1) σ=some q) (hun:xL r g F) (hsi:XV r g F) (hex:Yl r g F) :
  Calls Tryz.prog 112 #[.pointer (some ⟨r,0,none⟩)] w (zN r g w q):=by
 obtain ⟨hr,hg⟩:=h.lt;have ct:=Xi r g σ (w.alloc zL) (h.alloc _);obtain ⟨t,ht⟩:∃t,t=zx σ.2:=⟨_,rfl⟩;rw [←ht] at ct;have HH:Hid (zD r g σ w):=h;have HQ:Hid (ZP (F+1) σ=some q):=hq;have aW:Hid (xL r g F):=hun;have aJ:Hid (XV r g F):=hsi;have Z:Hid (Yl r g F):=hex;have HT:Hid (t=zx σ.2):=ht;clear h hq hun hsi hex ht
 go_enter Tryz.func112,Tryz.ntmps112
 go_wp2_with fail
 refine ct.mono ?_;clear ct;rintro e R ⟨rfl,aw⟩;obtain ⟨SBx,aO⟩:∃SBx,SBx=R.heap.size:=⟨_,rfl⟩;have bj:(w.alloc zL).heap.size=w.heap.size+1:=by simp
 have aM:=aw.size
 have a1:Hid (zc r w (R.alloc (yY [[45],[33]]))∧zD r g σ (R.alloc (yY [[45],[33]]))∧(R.alloc (yY [[45],[33]])).heap[w.heap.size]?=some zL∧(R.alloc (yY [[45],[33]])).heap[SBx]?=some (yY [[45],[33]])):=by
  refine ⟨(((zc.refl r w).alloc _).trans (zc.of aw)).alloc _,((HH.out.alloc _).below aw).alloc _,?_,?_⟩
  ·rw [Below.heap_alloc _ _ _ (by omega),aw.block _ (by omega)]
   exact World.alloc_heap_new _ _
  ·rw [aO];exact World.alloc_heap_new _ _
 have bu:r≠SBx:=by omega
 have ap:=xy;simp only [YQ];go_wp2_with fail
 rw [←aO];clear aw HH aO aM bj
 go_loopw [5,12] (fun _ vi wr=>∃i:Nat,i≤2∧vi=.int .i64 (i:Int)∧(∀j,j<i→zW (sg2 j) σ=false)∧zc r w wr∧zD r g σ wr∧wr.heap[w.heap.size]?=some zL∧wr.heap[SBx]?=some (yY [[45],[33]])) (fun _ vi _=>2-(intOf vi).toNat)
 case atStart=>exact ⟨0,by omega,rfl,fun j hj=>absurd hj (Nat.not_lt_zero _),a1.out⟩
 case round =>
  clear a1;obtain ⟨i,hi,rfl,a0,bf,hR,hz,aB⟩:=hrel;have af:Hid (zc r w wr):=bf;have HR:Hid (zD r g σ wr):=hR;have HZ:Hid (wr.heap[w.heap.size]?=some zL):=hz;have av:Hid (wr.heap[SBx]?=some (yY [[45],[33]])):=aB;have ax:Hid (∀j,j<i→zW (sg2 j) σ=false):=a0;clear a0 bf hz
  by_cases au:i<2
  ·have bv:(i:Int)<2:=by omega
   have c1:wr.cell? ⟨SBx,i,none⟩=some (.string (za (sg2 i))):=by
    have h9:=Vm aB i (by simpa using au)
    have hc:i=0∨i=1:=by omega
    rcases hc with rfl | rfl <;> exact h9
   have ct:=yp r g σ (sg2 i) wr hR;clear hR aB;cases hs:zW (sg2 i) σ
   ·rw [hs] at ct
    have o:ZG (sg2 i) σ=σ:=by unfold ZG;rw [if_neg (by simp [hs])]
    rw [o] at ct
    have bs:Hid (∀j,j<i+1→zW (sg2 j) σ=false):=fun j hj=>by
     rcases Nat.lt_or_ge j i with h9 | h9
     ·exact ax.out j h9
     ·obtain rfl:j=i:=by omega
      exact hs
    generalize sg2 i=s at *;go_wp2_with fail
    refine ct.mono ?_;clear ct c1;rintro e R ⟨rfl,y,an⟩
    have HJ:Hid (zc r w R∧zD r g σ R∧R.heap[w.heap.size]?=some zL∧R.heap[SBx]?=some (yY [[45],[33]])) :=
     ⟨af.out.trans y,an,(y.block _ (Array.getElem?_eq_some_iff.1 HZ.out).1 (by omega)).trans HZ.out,(y.block _ (Array.getElem?_eq_some_iff.1 av.out).1 (by omega)).trans av.out⟩
    clear y an af HR HZ av;go_wp2
    exact ⟨⟨i+1,by omega,by go_num,bs.out,HJ.out⟩,by simp [intOf];omega⟩
   ·rw [hs] at ct
    have o:ZG (sg2 i) σ=(false,σ.2.tail):=by unfold ZG;rw [if_pos hs]
    rw [o] at ct;obtain ⟨q',am,al⟩:=uv HQ.out au hs ax.out;generalize sg2 i=s at *;rw [←HT.out] at al;subst al;go_wp2_with fail
    refine ct.mono ?_;clear ct c1;rintro e R ⟨rfl,y,an⟩;have cu:=aW.out F (Nat.le_refl _) _ q' R am an;go_wp2_with fail
    refine cu.mono ?_;clear cu;rintro e w7 ⟨z,v,rfl,aj,aX⟩;obtain ⟨a,b,c,d0,d1,d2,l,rfl⟩:=aj.agg;have aC:w.heap.size<wr.heap.size:=(Array.getElem?_eq_some_iff.1 HZ.out).1;have aM:=y.size;have aP:=z.size;have p7:w7.heap[w.heap.size]?=some zL:=(z.block _ (by omega) (by omega)).trans ((y.block _ (by omega) (by omega)).trans HZ.out)
    have HP:Hid (zN r g w (.mk 6 s 0 [q'.1] t.line,q'.2) (.returned (.agg #[.int .i64 6,.string (za s),.int .i64 0,.slice (some ⟨w7.heap.size,0,none⟩) 1 1,.int .i64 t.line])) (set5 (w7.alloc (.cells #[.int .i64 a,.string b,.int .i64 c,.slice d0 d1 d2,.int .i64 l] 90)) w.heap.size (.int .i64 6) (.string (za s)) (.int .i64 0) (.slice (some ⟨w7.heap.size,0,none⟩) 1 1) (.int .i64 t.line))) :=
     zN.one 6 s 0 t.line ((af.out.trans y).trans z) hr hg aj (by omega) aP aX
    obtain ⟨y0,y1,y2,y3,y4,yf⟩:=ze p7;have bB:=zd y0;have bA:=zd y1;have bD:=zd y2;have bC:=zd y3;have bt:=zd y4;have L:=(fun ob=>(Below.heap_alloc w7 ob w.heap.size (by omega)).trans p7)
    have bx:=(fun ob j=>(ze (L ob)).2.2.2.2.2 j)
    obtain ⟨z0,z1,z2,z3,z4⟩:=zj (L (.cells #[.int .i64 a,.string b,.int .i64 c,.slice d0 d1 d2,.int .i64 l] 90)) (.int .i64 6) (.string (za s)) (.int .i64 0) (.slice (some ⟨w7.heap.size,0,none⟩) 1 1) (.int .i64 t.line);clear y an z aj aX p7 L aC aM aP af HR HZ av ax aW aJ Z am HQ;go_wp2
    exact bodyPost_ret (v:=.agg #[.int .i64 6,.string (za s),.int .i64 0,.slice (some ⟨w7.heap.size,0,none⟩) 1 1,.int .i64 t.line]) (by simp [results,Tryz.results112,go_sem,z0,z1,z2,z3,z4]) rfl HP.out
  ·obtain rfl:i=2:=by omega
   obtain ⟨q1,am,al⟩:=uw HQ.out ax.out;have c1:=aJ.out F (Nat.le_refl _) σ q1 wr am hR;have aY:Hid (zX F q1.1 q1.2=some q):=al;clear hR aB am al HQ ax aW aJ;go_wp2_with fail
   refine c1.mono ?_;clear c1;rintro e R ⟨y,v,rfl,hx,ah⟩;obtain ⟨a,b,c,d0,d1,d2,l,rfl⟩:=hx.agg;have aC:w.heap.size<wr.heap.size:=(Array.getElem?_eq_some_iff.1 HZ.out).1
   have HJ:Hid (YY r g R.heap.size F w q (fun f e σ=>zX f e σ) (R.alloc (.cells #[.int .i64 a,.string b,.int .i64 c,.slice d0 d1 d2,.int .i64 l] 90))) :=
    ⟨q1.1,q1.2,F,a,b,c,d0,d1,d2,l,Nat.le_refl _,aY.out,ZN.start aC HZ.out af.out hr y hx ah⟩
   have V:w.heap.size<R.heap.size:=by have:=y.size;omega
   obtain ⟨N,aI⟩:∃N,N=R.heap.size:=⟨_,rfl⟩;rw [←aI] at HJ V;clear hx ah y aY aC af HR HZ av;go_wp2_with fail
   rw [←aI];generalize hW0:R.alloc (.cells #[.int .i64 a,.string b,.int .i64 c,.slice d0 d1 d2,.int .i64 l] 90)=W0 at *;clear hW0 aI
   go_loopw [34] (fun _ wr=>YY r g N F w q (fun f e σ=>zX f e σ) wr) (fun _ wr=>ZH r wr)
   case atStart=>exact HJ.out
   case round =>
    clear HJ;obtain ⟨e,σ2,f2,G,J,K,H,I,E,l2,bw,hT,hC⟩:=hrel;obtain rfl:l2=(e.line:Int):=hC.ex.line_eq;obtain ⟨bd,ts⟩:=σ2;have HC:Hid (ZN r g N w e (bd,ts) G J K H I E (e.line:Int) wr):=hC;have Q:Hid (ZH r wr=ts.length):=hC.rd.left
    obtain ⟨f3,rfl⟩:∃f3,f2=f3+1:=by
     cases f2 with
     | zero=>simp [zX] at hT
     | succ f3=>exact ⟨f3,rfl⟩
    replace hT:zX (f3+1) e (bd,ts)=some q:=hT;rw [zX] at hT
    have M:Hid (zW [91] (bd,ts)=false→zW [46] (bd,ts)=false→∀W,zc r wr W→zD r g (bd,ts) W→W.heap[N]?=some (.cells #[.int .i64 G,.string J,.int .i64 K,.slice H I E,.int .i64 (e.line:Int)] 90 (0,0))∧W.heap[w.heap.size]?=some zL ∧
      zN r g w q (.returned (.agg #[.int .i64 G,.string J,.int .i64 K,.slice H I E,.int .i64 (e.line:Int)])) (set5 W w.heap.size (.int .i64 G) (.string J) (.int .i64 K) (.slice H I E) (.int .i64 (e.line:Int)))):=by
     intro h1 h2 W hK hR;rw [if_neg (by simp [h1]),if_neg (by simp [h2])] at hT
     obtain rfl:=Option.some.inj hT;exact HC.out.leave hr hg V hK hR
    have aL:=hC.rd;obtain ⟨pp,bz,TS,hb⟩:=hC.rd;obtain ⟨m0,m1,m2,mf⟩:=Zb hb.blk;clear hb hC;cases bd
    ·have cs:=yp r g (false,ts) [91] wr aL
     clear aL;cases hi:zW [91] (false,ts)
     ·rw [hi] at cs
      have o:ZG [91] (false,ts)=(false,ts):=by unfold ZG;rw [if_neg (by simp [hi])]
      rw [o] at cs;rw [if_neg (by simp [hi])] at hT
      go_wp2_with fail
      refine cs.mono ?_;clear cs m0 m1 m2 mf;rintro e' wB ⟨rfl,a4,bc⟩;have cd:=yp r g (false,ts) [46] wB bc;have aU:Hid (zc r wr wB):=a4;clear a4 bc;cases hd:zW [46] (false,ts)
      ·rw [hd] at cd
       have o:ZG [46] (false,ts)=(false,ts):=by unfold ZG;rw [if_neg (by simp [hd])]
       rw [o] at cd;go_wp2_with fail
       refine cd.mono ?_;clear cd;rintro e' wC ⟨rfl,bq,bl⟩;obtain ⟨pN,pz,ar⟩:=M.out hi hd wC (aU.out.trans bq) bl;obtain ⟨n0,n1,n2,n3,n4,nf⟩:=ze pN;obtain ⟨bo,bi,bk,bn,bp,zf⟩:=ze pz;obtain ⟨z0,z1,z2,z3,z4⟩:=zj pz (.int .i64 G) (.string J) (.int .i64 K) (.slice H I E) (.int .i64 (e.line:Int));have aN:Hid (zN r g w q (.returned (.agg #[.int .i64 G,.string J,.int .i64 K,.slice H I E,.int .i64 (e.line:Int)])) (set5 wC w.heap.size (.int .i64 G) (.string J) (.int .i64 K) (.slice H I E) (.int .i64 (e.line:Int)))):=ar;clear ar pN pz M HC Q Z;go_wp2
       exact bodyPost_ret (v:=.agg #[.int .i64 G,.string J,.int .i64 K,.slice H I E,.int .i64 (e.line:Int)]) (by simp [results,Tryz.results112,go_sem,z0,z1,z2,z3,z4]) rfl aN.out
      ·rw [hd] at cd
       have o:ZG [46] (false,ts)=(false,ts.tail):=by unfold ZG;rw [if_pos hd]
       rw [o] at cd;rw [if_pos hd] at hT;obtain ⟨-,aS,U⟩:=xK hd;have X:=yB U;go_wp2_with fail
       refine cd.mono ?_;clear cd;rintro e' wE ⟨rfl,ai,Y⟩;have aq:zc r wr wE:=aU.out.trans ai;have O:=HC.out.moved hr V aq Y;have T:Hid (zc r wr wE):=aq;have ae:N<wE.heap.size:=(Array.getElem?_eq_some_iff.1 O.blk).1;have ao:Hid (zD r g (false,ts.tail) wE):=Y;have aa:Hid (wE.heap[N]?=some (.cells #[.int .i64 G,.string J,.int .i64 K,.slice H I E,.int .i64 (e.line:Int)] 90 (0,0))):=O.blk;obtain ⟨n0,n1,n2,n3,n4,nf⟩:=ze O.blk;have ba:=zd n0;have be:=zd n1;have a8:=zd n2;have a6:=zd n3;have bh:=zd n4;have aK:=xW (false,ts.tail);obtain ⟨qn,aR⟩:∃qn,qn=nameF (false,ts.tail):=⟨_,rfl⟩;rw [←aR] at hT aK
       have aV:∀W:World,zc r wE W→zD r g (false,ts.tail) W→Calls Tryz.prog 137 #[.pointer (some ⟨r,0,none⟩)] W fun e' w'=>e'=.returned (.string (za qn.1))∧w'.heap[N]?=some (.cells #[.int .i64 G,.string J,.int .i64 K,.slice H I E,.int .i64 (e.line:Int)] 90 (0,0))∧W.heap.size≤w'.heap.size∧Hid (zc r W w'∧zD r g qn.2 w'):=fun W hK hR=>(QN r g (false,ts.tail) W hR).mono fun e' w' h=>by
        obtain ⟨h1,ag,ah⟩:=h;rw [aR];exact ⟨h1,(ag.block N (Nat.lt_of_lt_of_le ae hK.size) (by omega)).trans ((hK.block N ae (by omega)).trans aa.out),ag.size,ag,ah⟩
       have ab:qn.2.2.length<ZH r wr:=by rw [Q.out];simp only at aK X;omega
       have HT:Hid (zX f3 (.mk 9 qn.1 0 [e] e.line) qn.2=some q):=hT;have ap:f3≤F:=by omega
       clear O Y ai aq aU M Z hT aR aK X aS U hd o hi;go_wp2_with fail
       go_region_with (go_at_call 137;refine (aV _ (by first | exact zc.drew r wE | exact ((zc.refl r wE).alloc _).trans (zc.drew _ _)) (by first | exact ao.out.keep rfl rfl | exact (ao.out.alloc _).keep rfl rfl)).mono ?_;rintro e' w7 ⟨rfl,p7,aP,H7⟩;have aQ:N<w7.heap.size:=(Array.getElem?_eq_some_iff.1 p7).1;have L:=(fun ob=>(Below.heap_alloc w7 ob N aQ).trans p7);obtain ⟨m0,m1,m2,m3,m4,mf⟩:=ze p7;have aF:=zd m0;have aA:=zd m1;have ay:=zd m2;have aG:=zd m3;have aE:=zd m4;have aD:=(fun ob j=>(ze (L ob)).2.2.2.2.2 j))
       all_goals (obtain ⟨ad,D⟩:=H7.out)
       all_goals first
        | (have z:zc r wE w7:=(zc.drew r wE).trans ad
           obtain ⟨W,hW⟩:∃W,W=(set5 w7 N (.int .i64 9) (.string (za qn.1)) (.int .i64 0) (.slice (some ⟨w7.heap.size,0,none⟩) 1 1) (.int .i64 (e.line:Int))).alloc (.cells #[.int .i64 G,.string J,.int .i64 K,.slice H I E,.int .i64 (e.line:Int)] 90):=⟨_,rfl⟩;have A:=ZN.one 9 qn.1 HC.out hr hg V (T.out.trans z) D (.int .i64 9) rfl W hW;have ak:Hid (YY r g N F w q (fun f e σ=>zX f e σ) W∧ZH r W<ZH r wr):=show _∧_<_ from ⟨⟨_,_,f3,_,_,_,_,_,_,_,ap,HT.out,A⟩,by rw [A.rd.left];exact ab⟩
           change Exit.inBlock _ _ _ _ ((set5 w7 N (.int .i64 9) (.string (za qn.1)) (.int .i64 0) (.slice (some ⟨w7.heap.size,0,none⟩) 1 1) (.int .i64 (e.line:Int))).alloc (.cells #[.int .i64 G,.string J,.int .i64 K,.slice H I E,.int .i64 (e.line:Int)] 90))
           rw [←hW];clear hW A D z ad p7 L m0 m1 m2 m3 m4 mf aF aA ay aG aE aD n0 n1 n2 n3 n4 nf ba be a8 a6 bh aV H7 aa HT T HC ab ao;go_wp2
           exact ak.out)
        | (have z:zc r (wE.alloc (.cells #[.int .i64 G,.string J,.int .i64 K,.slice H I E,.int .i64 (e.line:Int)] 90)) w7:=(zc.drew r (wE.alloc (.cells #[.int .i64 G,.string J,.int .i64 K,.slice H I E,.int .i64 (e.line:Int)] 90))).trans ad
           obtain ⟨W,hW⟩:∃W,W=set5 w7 N (.int .i64 9) (.string (za qn.1)) (.int .i64 0) (.slice (some ⟨wE.heap.size,0,none⟩) 1 1) (.int .i64 (e.line:Int)):=⟨_,rfl⟩;have A:=ZN.one' wE 9 qn.1 HC.out hr hg V T.out z D (.int .i64 9) rfl W hW;have ak:Hid (YY r g N F w q (fun f e σ=>zX f e σ) W∧ZH r W<ZH r wr):=show _∧_<_ from ⟨⟨_,_,f3,_,_,_,_,_,_,_,ap,HT.out,A⟩,by rw [A.rd.left];exact ab⟩
           change Exit.inBlock _ _ _ _ (set5 w7 N (.int .i64 9) (.string (za qn.1)) (.int .i64 0) (.slice (some ⟨wE.heap.size,0,none⟩) 1 1) (.int .i64 (e.line:Int)))
           rw [←hW];clear hW A D z ad p7 L m0 m1 m2 m3 m4 mf aF aA ay aG aE aD n0 n1 n2 n3 n4 nf ba be a8 a6 bh aV H7 aa HT T HC ab ao;go_wp2
           exact ak.out)
     ·rw [hi] at cs
      have o:ZG [91] (false,ts)=(false,ts.tail):=by unfold ZG;rw [if_pos hi]
      rw [o] at cs;rw [if_pos hi] at hT;obtain ⟨-,aS,U⟩:=xK hi;have X:=yB U;go_wp2_with fail
      refine cs.mono ?_;clear cs m0 m1 m2 mf;rintro e' wE ⟨rfl,ai,Y⟩;have O:=HC.out.moved hr V ai Y;have T:Hid (zc r wr wE):=ai;have ae:N<wE.heap.size:=(Array.getElem?_eq_some_iff.1 O.blk).1;have aa:Hid (wE.heap[N]?=some (.cells #[.int .i64 G,.string J,.int .i64 K,.slice H I E,.int .i64 (e.line:Int)] 90 (0,0))):=O.blk;obtain ⟨n0,n1,n2,n3,n4,nf⟩:=ze O.blk;obtain ⟨q3,aT,aZ⟩:=Option.bind_eq_some_iff.1 hT;have aH:=(QF f3).1 _ _ _ aT
      have cb:∀W:World,W.heap=wE.heap→W.os=wE.os→W.tape=wE.tape→W.output=wE.output→Calls Tryz.prog 91 #[.pointer (some ⟨r,0,none⟩),.int .i64 0] W fun e' w'=>∃(a3:Int) (b3:ByteArray) (c3:Int) (u0:Option Addr) (u1 u2:Nat) (l3:Int),e'=.returned (.agg #[.int .i64 a3,.string b3,.int .i64 c3,.slice u0 u1 u2,.int .i64 l3]) ∧
        w'.heap[N]?=some (.cells #[.int .i64 G,.string J,.int .i64 K,.slice H I E,.int .i64 (e.line:Int)] 90 (0,0))∧Hid (zc r wE w'∧zO wE.heap.size w' q3.1 (.agg #[.int .i64 a3,.string b3,.int .i64 c3,.slice u0 u1 u2,.int .i64 l3])∧zD r g q3.2 w'):=fun W e1 e2 e3 e4=>by
       refine (show Calls Tryz.prog 91 #[.pointer (some ⟨r,0,none⟩),.int .i64 0] W _ from Z.out f3 (by omega) 0 _ q3 W (by omega) aT (Y.as e1)).mono ?_
       rintro e' w' ⟨hk,v,rfl,hx,ah⟩;obtain ⟨a3,b3,c3,u0,u1,u2,l3,rfl⟩:=hx.agg;have ag:=hk.as e1 e2 e3 e4;rw [e1] at hx;exact ⟨a3,b3,c3,u0,u1,u2,l3,rfl,(ag.block N ae (by omega)).trans aa.out,ag,hx,ah⟩
      have ab:q3.2.2.length<ZH r wr:=by rw [Q.out];simp only at aH X;omega
      have HT:Hid (zX f3 (.mk 8 [] 0 [e,q3.1] e.line) (Zd [93] q3.2)=some q):=aZ;have ap:f3≤F:=by omega
      have ao:Hid (zD r g (false,ts.tail) wE):=Y;clear O Y ai M hT aT aZ aH X aS U hi o;go_wp2_with fail
      go_cut [] from 28 to 55 (fun wx=>YY r g N F w q (fun f e σ=>zX f e (Zd [93] σ)) wx∧ZH r wx<ZH r wr)
      case first =>
       clear Z
       go_region_with (go_at_call 91;refine (cb _ (by rfl) (by rfl) (by rfl) (by rfl)).mono ?_;rintro e' w7 ⟨a3,b3,c3,u0,u1,u2,l3,rfl,p7,H7⟩;have aQ:N<w7.heap.size:=(Array.getElem?_eq_some_iff.1 p7).1;have L:=(fun ob=>(Below.heap_alloc w7 ob N aQ).trans p7);obtain ⟨m0,m1,m2,m3,m4,mf⟩:=ze p7;have aF:=zd m0;have aA:=zd m1;have ay:=zd m2;have aG:=zd m3;have aE:=zd m4;have aD:=(fun ob j=>(ze (L ob)).2.2.2.2.2 j))
       all_goals
        obtain ⟨z,aj,D⟩:=H7.out;obtain ⟨W,hW⟩:∃W,W=(set5 w7 N (.int .i64 8) (.string ⟨#[]⟩) (.int .i64 0) (.slice (some ⟨w7.heap.size,0,none⟩) 2 2) (.int .i64 (e.line:Int))).alloc (.cells #[.int .i64 G,.string J,.int .i64 K,.slice H I E,.int .i64 (e.line:Int),.int .i64 a3,.string b3,.int .i64 c3,.slice u0 u1 u2,.int .i64 l3] 90):=⟨_,rfl⟩;have A:=ZN.two 8 [] HC.out hr hg V T.out z aj D (.int .i64 8) rfl W hW;have ak:Hid (YY r g N F w q (fun f e σ=>zX f e (Zd [93] σ)) W∧ZH r W<ZH r wr):=show _∧_<_ from ⟨⟨_,_,f3,_,_,_,_,_,_,_,ap,HT.out,A⟩,by rw [A.rd.left];exact ab⟩
        change Exit.then _ _ _ _ ((set5 w7 N (.int .i64 8) (.string ⟨#[]⟩) (.int .i64 0) (.slice (some ⟨w7.heap.size,0,none⟩) 2 2) (.int .i64 (e.line:Int))).alloc (.cells #[.int .i64 G,.string J,.int .i64 K,.slice H I E,.int .i64 (e.line:Int),.int .i64 a3,.string b3,.int .i64 c3,.slice u0 u1 u2,.int .i64 l3] 90))
        rw [←hW];clear hW A D aj z p7 L m0 m1 m2 m3 m4 mf aF aA ay aG aE aD n0 n1 n2 n3 n4 nf cb H7 aa HT T HC ab;go_wp2_with fail
        go_meet
        exact ak.out
      case rest =>
       obtain ⟨⟨e5,σ5,f5,a5,b5,c5,p5,q5,s5,l5,br,a7,az⟩,au⟩:=hcut;have cn:=VP r g σ5 [93] wc az.rd
       have bg:Hid (∀W,zc r wc W→zD r g (Zd [93] σ5) W→YY r g N F w q (fun f e σ=>zX f e σ) W∧ZH r W<ZH r wr):=fun W hK hR =>
        ⟨⟨e5,_,f5,a5,b5,c5,p5,q5,s5,l5,br,a7,az.moved hr V hK hR⟩,by rw [hR.left];have h1:=Ys [93] σ5;rw [az.rd.left] at au;omega⟩
       clear a7 az au cb HT T HC aa n0 n1 n2 n3 n4 nf Z;go_wp2_with fail
       refine cn.mono ?_;clear cn;rintro e9 w9 ⟨rfl,bb,a9⟩;have bm:Hid (YY r g N F w q (fun f e σ=>zX f e σ) w9∧ZH r w9<ZH r wr):=bg.out w9 bb a9
       clear bg bb a9;go_wp2
       exact bm.out
    ·obtain ⟨pN,pz,ar⟩:=M.out (by simp [zW]) (by simp [zW]) wr (zc.refl _ _) aL
     obtain ⟨n0,n1,n2,n3,n4,nf⟩:=ze pN;obtain ⟨bo,bi,bk,bn,bp,zf⟩:=ze pz;obtain ⟨z0,z1,z2,z3,z4⟩:=zj pz (.int .i64 G) (.string J) (.int .i64 K) (.slice H I E) (.int .i64 (e.line:Int));have aN:Hid (zN r g w q (.returned (.agg #[.int .i64 G,.string J,.int .i64 K,.slice H I E,.int .i64 (e.line:Int)])) (set5 wr w.heap.size (.int .i64 G) (.string J) (.int .i64 K) (.slice H I E) (.int .i64 (e.line:Int)))):=ar;clear ar pN pz M HC Q Z;go_wp2
     exact bodyPost_ret (v:=.agg #[.int .i64 G,.string J,.int .i64 K,.slice H I E,.int .i64 (e.line:Int)]) (by simp [results,Tryz.results112,go_sem,z0,z1,z2,z3,z4]) rfl aN.out
end Go.Proofs.YtmbofhpmockmbaaGreatDoor
