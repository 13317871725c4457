import Derived.Test.YtmbofhpmockmbaaGreatDoorMC4
import Derived.Test.YtmbofhpmockmbaaGreatDoorQLives
import Derived.Test.YtmbofhpmockmbaaGreatDoorWMix
namespace Go.Proofs.YtmbofhpmockmbaaGreatDoor
open Go.RowKit Go.Shelf
set_option maxHeartbeats 16000000
set_option maxRecDepth 100000
theorem Yr {α:Type} {z v:α} {a k:Nat} {g:α × Nat × Nat} (h:g=(v,k,0)):stepR z a 0 g=(v,a+k,0):=by
 subst h;unfold stepR;rw [if_neg (by decide),if_neg (by simp)]
theorem V2 {α:Type} {z v:α} {a e:Nat} {g:α × Nat × Nat} (h:g=(v,0,e)) (he:e≠0):stepR z a 0 g=(z,a,e):=by
 subst h;unfold stepR;rw [if_neg (by decide),if_pos he]
theorem Yi (pre rest:List UInt8) (k n:Int) (s:List UInt8) (hk:-9223372036854775808≤k∧k≤9223372036854775807) (hn:-9223372036854775808≤n∧n≤9223372036854775807) (hs:s.length≤1048576) :
  y6 (pre++Zk k n s++rest) pre.length 0=if 255<s.length then ((0,0,[]),pre.length+(zE k).length+(zE n).length,5) else ((k,n,s),pre.length+(Zk k n s).length,0):=by
 have o:pre++Zk k n s++rest=pre++(zE k++(zE n++(Zq (za s)++rest))):=by unfold Zk;simp [List.append_assoc]
 have D:gI (pre++Zk k n s++rest) pre.length 0=(k,pre.length+(zE k).length,0):=by
  unfold gI
  rw [o,List.drop_left];exact Yr (YW hk.1 hk.2 _)
 have A:gI (pre++Zk k n s++rest) (pre.length+(zE k).length) 0=(n,pre.length+(zE k).length+(zE n).length,0):=by
  unfold gI
  have:(pre++(zE k++(zE n++(Zq (za s)++rest)))).drop (pre.length+(zE k).length)=zE n++(Zq (za s)++rest):=by
   rw [←List.append_assoc,←List.length_append,List.drop_left]
  rw [o,this];exact Yr (YW hn.1 hn.2 _)
 have y:(pre++Zk k n s++rest).drop (pre.length+(zE k).length+(zE n).length)=Zq (za s)++rest:=by
  rw [o,←List.append_assoc,←List.append_assoc,←List.length_append,←List.length_append,List.drop_left]
 have e:=uy (za s) rest 255 (by show s.length≤_;omega)
 have z:((za s).size:Int)=s.length:=rfl
 unfold y6
 rw [D];simp only;rw [A];simp only
 by_cases h:255<s.length
 ·rw [if_pos (by rw [z];omega)] at e
  rw [if_pos h]
  unfold gT
  rw [y,V2 e (by decide)]
  rfl
 ·rw [if_neg (by rw [z];omega)] at e
  rw [if_neg h]
  unfold gT
  rw [y,Yr e]
  unfold vZ Zk
  simp only [List.length_append,if_true];rw [Nat.add_assoc pre.length,Nat.add_assoc pre.length]
theorem UM (w:World):(w.alloc (.cells #[] 5)).ownsRow w.heap.size 5 1 (.slice (some ⟨w.heap.size,0,none⟩) 0 0) 0 []:=World.ownsRow_made w #[] 0 (Nat.le_refl _) (Nat.zero_le _) rfl
abbrev yP (k n:Int) (s:List UInt8):Obj:=.cells #[.int .i64 k,.int .i64 n,.string (za s)] 24 (0,0)
theorem yQ {k n:Int} {s:List UInt8} (hk:-9223372036854775808≤k∧k≤9223372036854775807) (hn:-9223372036854775808≤n∧n≤9223372036854775807) (hs:s.length≤1048576):(Zk k n s).length≤1048676:=by
 have o:=Z6 hk.1 hk.2;have e:=Z6 hn.1 hn.2;have y:=Z6 (n:=(s.length:Int)) (by omega) (by omega)
 unfold Zk Zq
 simp only [List.length_append]
 have:(za s).data.toList.length=s.length:=rfl
 have:(zE ((za s).size:Int)).length=(zE (s.length:Int)).length:=rfl
 omega
theorem vO (k n:Int) (s:List UInt8) (hk:-9223372036854775808≤k∧k≤9223372036854775807) (hn:-9223372036854775808≤n∧n≤9223372036854775807) (hs:s.length≤1048576)
  (k' n':Int) (s':List UInt8) (hk':-9223372036854775808≤k'∧k'≤9223372036854775807) (hn':-9223372036854775808≤n'∧n'≤9223372036854775807) (hs':s'.length≤1048576)
  (vm:Value) (ms:List UInt8) (w:World) (hm:zu w vm ms) (hml:ms.length≤1048576) (hQ:QT w) :
  Calls Tryz.prog 7 #[Zz k n s,Zz k' n' s',vm] w fun e w'=>e=.returned (.bool true)∧Below w.heap.size w w':=by
 have HQ:Hid (QT w):=hQ;obtain ⟨D,aR,aM,bf,p1,p2⟩:=XN w (yP k n s) (yP k' n' s');have HP:Hid (D.heap[w.heap.size]?=some (yP k n s)∧D.heap[w.heap.size+1]?=some (yP k' n' s')∧Below w.heap.size w D):=⟨p1,p2,aM⟩;have o:Hid ((-9223372036854775808≤k∧k≤9223372036854775807)∧(-9223372036854775808≤n∧n≤9223372036854775807)∧s.length≤1048576):=⟨hk,hn,hs⟩;have z:Hid ((-9223372036854775808≤k'∧k'≤9223372036854775807)∧(-9223372036854775808≤n'∧n'≤9223372036854775807)∧s'.length≤1048576):=⟨hk',hn',hs'⟩;have HM:Hid (zu w vm ms∧ms.length≤1048576):=⟨hm,hml⟩;obtain ⟨aF,aO,rfl,-⟩:=hm;have ay:=aR.symm;have zs:(za s).size=s.length:=rfl;have bm:(za s').size=s'.length:=rfl
 unfold Zz
 clear hQ aR aM bf hk hn hs hk' hn' hs' hml;obtain ⟨a0,a1,a2,-⟩:=zh p1;obtain ⟨b0,b1,b2,-⟩:=zh p2
 by_cases hbig:255<s.length∨255<s'.length
 ·have bl:Hid (255<s.length∨255<s'.length):=hbig
  have cp:=YY (.slice none 0 0) [] k n s o.out.1 o.out.2.1 D (yb _) (by have:=o.out.2.2;simp;omega)
  unfold Zz at cp
  clear p1 p2
  by_cases h1:255<s.length
  ·have h2:(255:Int)<(s.length:Int):=by omega
   go_enter Tryz.func7,Tryz.ntmps7
   go_wp2_with fail
   refine cp.mono ?_;clear cp ay a0 a1 a2 b0 b1 b2;rintro e U ⟨v2,rfl,R,I⟩;have cn:=yg v2 _ U (zT R) (by have:=yQ o.out.1 o.out.2.1 o.out.2.2;rw [List.nil_append];omega)
   have aG:Hid (U.heap[w.heap.size]?=some (yP k n s)∧Below w.heap.size w U):=⟨(I.block _ (ZW HP.out.1)).trans HP.out.1,Zw HP.out.2.2 I⟩;clear R I;go_wp2_with fail
   refine cn.mono ?_;clear cn;rintro e y ⟨p,base,aW,rfl,af,ak,aj,L,H⟩;have E:=aG.out;have G:=Yf af (fun a ha=>(L a ha).2)
   have aK:Hid (y.heap[w.heap.size]?=some (yP k n s)∧Below w.heap.size w y∧w.heap.size<p):=⟨(H.block _ (ZW E.1)).trans E.1,Zw E.2 H,by have:=ZW E.1;omega⟩
   have HG:Hid (y6 ([]++Zk k n s) 0 0=if 255<s.length then ((0,0,[]),0+(zE k).length+(zE n).length,5) else ((k,n,s),0+(Zk k n s).length,0)):=by
    show _=_
    have:=Yi [] [] k n s o.out.1 o.out.2.1 o.out.2.2
    rw [List.append_nil] at this;exact this
   clear E af ak aj L H;rw [HG.out,if_pos h1] at G
   unfold Zz at G
   simp only at G;go_wp2_with fail
   refine G.mono ?_;clear G;rintro e w4 ⟨rfl,aq,V⟩;have h3:=aK.out;obtain ⟨w5,am,M,aJ,p5⟩:=yn w4 (.cells #[.int .i64 0,.int .i64 0,.string ⟨#[]⟩] 24 (0,0));have p4:=ZA V h3.1 (by omega)
   have al:=(M.block _ (ZW p4)).trans p4;have N:Below w.heap.size w w4:=h3.2.1.grown V h3.2.1.size (fun k hk=>by cases hk;omega)
   have ao:Hid (Below w.heap.size w w5):=Zw N M;obtain ⟨q0,q1,q2,-⟩:=zh p5;obtain ⟨a0,a1,a2,-⟩:=zh al;have ce:=ZY (aq.below M (Nat.le_refl _));have a7:Hid (w5=w4.alloc (.cells #[.int .i64 0,.int .i64 0,.string ⟨#[]⟩] 24 (0,0))):=am;have bi:¬ (s.length:Int)≤255:=by omega
   clear aq V h3 am M aJ p5 p4 al N
   go_upto_region 6 with fail
   rw [←a7.out];clear a7;go_wp2_with fail
   refine ce.mono ?_;clear ce q0 q1 q2 a0 a1 a2;rintro e w6 ⟨rfl,rfl⟩;have cl:=yO w5 (HQ.out.below ao.out);go_wp2_with fail
   refine cl.mono ?_;clear cl;rintro e w7 ⟨rfl,ai⟩;have Q:Hid (Below w.heap.size w w7):=Zw ao.out ai;clear ai;go_wp2
   go_ret
   exact ⟨rfl,Q.out⟩
  ·have h2:¬ (255:Int)<(s.length:Int):=by omega
   have h3:(255:Int)<(s'.length:Int):=by omega
   go_enter Tryz.func7,Tryz.ntmps7
   go_wp2_with fail
   refine cp.mono ?_;clear cp ay a0 a1 a2 b0 b1 b2;rintro e U ⟨v2,rfl,R,I⟩;have cn:=yg v2 _ U (zT R) (by have:=yQ o.out.1 o.out.2.1 o.out.2.2;rw [List.nil_append];omega)
   have aG:Hid (U.heap[w.heap.size]?=some (yP k n s)∧Below w.heap.size w U):=⟨(I.block _ (ZW HP.out.1)).trans HP.out.1,Zw HP.out.2.2 I⟩;clear R I;go_wp2_with fail
   refine cn.mono ?_;clear cn;rintro e y ⟨p,base,aW,rfl,af,ak,aj,L,H⟩;have E:=aG.out;have G:=Yf af (fun a ha=>(L a ha).2)
   have aK:Hid (y.heap[w.heap.size]?=some (yP k n s)∧Below w.heap.size w y∧w.heap.size<p):=⟨(H.block _ (ZW E.1)).trans E.1,Zw E.2 H,by have:=ZW E.1;omega⟩
   have HG:Hid (y6 ([]++Zk k n s) 0 0=if 255<s.length then ((0,0,[]),0+(zE k).length+(zE n).length,5) else ((k,n,s),0+(Zk k n s).length,0)):=by
    show _=_
    have:=Yi [] [] k n s o.out.1 o.out.2.1 o.out.2.2
    rw [List.append_nil] at this;exact this
   clear E af ak aj L H;rw [HG.out,if_neg h1] at G
   unfold Zz at G
   simp only at G;go_wp2_with fail
   refine G.mono ?_;clear G;rintro e w4 ⟨rfl,aq,V⟩;have ap:=aK.out;obtain ⟨w5,am,M,aJ,p5⟩:=yn w4 (yP k n s);have p4:=ZA V ap.1 (by omega)
   have al:=(M.block _ (ZW p4)).trans p4;have N:Below w.heap.size w w4:=ap.2.1.grown V ap.2.1.size (fun k hk=>by cases hk;omega)
   have ao:Hid (Below w.heap.size w w5):=Zw N M;obtain ⟨a0,a1,a2,-⟩:=zh al;have aS:=am.symm;have bi:(s.length:Int)≤255:=by omega
   have cl:=yO w5 (HQ.out.below ao.out);clear aq V ap am M aJ p5 p4 al N;go_wp2_with fail
   refine cl.mono ?_;clear cl aS a0 a1 a2;rintro e w7 ⟨rfl,ai⟩;have Q:Hid (Below w.heap.size w w7):=Zw ao.out ai;clear ai;go_wp2
   go_ret
   exact ⟨rfl,Q.out⟩
 ·have h2:¬ (255:Int)<(s.length:Int):=by omega
  have h3:¬ (255:Int)<(s'.length:Int):=by omega
  have aV:Hid (¬ 255<s.length∧¬ 255<s'.length):=by show _∧_;omega
  have av:=ZW p1;have ar:=ZW p2;have C1:Hid (∀W,Below D.heap.size D W→Calls Tryz.prog 19 #[.slice none 0 0,.agg #[.int .i64 k,.int .i64 n,.string (za s)]] W fun e w'=>∃v',e=.returned v'∧w'.ownsRow W.heap.size 5 1 v' ([]++Zk k n s).length (Lib.byteCells ([]++Zk k n s))∧Below W.heap.size W w'):=fun W _=>YY (.slice none 0 0) [] k n s o.out.1 o.out.2.1 W (yb _) (by have:=o.out.2.2;simp;omega)
  have x0:=ym (n:=D.heap.size) a0 av;have x1:=ym (n:=D.heap.size) a1 av;have x2:=ym (n:=D.heap.size) a2 av;have y0:=ym (n:=D.heap.size) b0 ar;have y1:=ym (n:=D.heap.size) b1 ar;have y2:=ym (n:=D.heap.size) b2 ar;have HD:Hid (Below D.heap.size D D.drew):=(Below.refl _ _).drew;clear hbig p1 p2 av ar
  go_enter Tryz.func7,Tryz.ntmps7
  go_wp2_with fail
  clear a0 a1 a2 b0 b1 b2;refine V1 (n:=5) (S:=fun w'=>∃c:qg D.heap.size D,w'=c.1) (by kernel_rfl) rfl rfl ?_
  refine Vp (fuel:=3) (fuel':=5) (idx:=[0,2]) (by decide +kernel) rfl rfl rfl (fun _ _ _ _ _ h=>h) ⟨⟨D.drew,HD.out⟩,rfl⟩ ?_
  show wpQuiet _ _ _ _ [_,_] _
  iterate 2 (go_big_quiet_step (fail))
  refine wpQuiet_nil ?_;refine X9 (fuel:=2) (fuel':=3) (i:=1) rfl (by decide +kernel) rfl rfl (by rfl) ?_
  intro K hK;go_simp;refine (C1.out _ HD.out).mono ?_;rintro e U ⟨v2,rfl,ah,I⟩;have aD:Hid (Below D.heap.size D U):=HD.out.trans (I.mono HD.out.size);have c2:=YY v2 ([]++Zk k n s) k' n' s' z.out.1 z.out.2.1 U (zT ah) (by have:=yQ o.out.1 o.out.2.1 o.out.2.2;have:=z.out.2.2;rw [List.nil_append];omega)
  unfold Zz at c2
  have aP:Hid (Calls Tryz.prog 19 #[v2,.agg #[.int .i64 k',.int .i64 n',.string (za s')]] U fun e w'=>∃v',e=.returned v'∧w'.ownsRow U.heap.size 5 1 v' (([]++Zk k n s)++Zk k' n' s').length (Lib.byteCells (([]++Zk k n s)++Zk k' n' s'))∧Below U.heap.size U w'):=c2
  clear ah I c2
  (try go_simp)
  refine hK.out _ _ ⟨⟨U,aD.out⟩,rfl⟩ ?_;clear hK K;refine X9 (fuel:=1) (fuel':=2) (i:=3) rfl (by decide +kernel) rfl rfl (by rfl) ?_
  intro K hK;go_simp;refine aP.out.mono ?_;rintro e y ⟨v3,rfl,J,H⟩;have ab:Hid (Below D.heap.size D y):=aD.out.trans (H.mono aD.out.size);obtain ⟨A,hA⟩:∃A,A=([]++Zk k n s)++Zk k' n' s':=⟨_,rfl⟩;rw [←hA] at J;have HA:Hid (A=Zk k n s++Zk k' n' s'):=by show _=_;rw [hA,List.nil_append]
  have bh:Hid (zu y v3 A):=zT J;obtain ⟨b3,c3,ba,-,-,-,-⟩:=YH J;subst ba;clear J H hA aP
  (try go_simp)
  refine hK.out _ _ ⟨⟨y,ab.out⟩,rfl⟩ ?_;clear hK K;refine Vp (fuel:=0) (fuel':=1) (idx:=[4]) (by decide +kernel) rfl rfl rfl (fun _ _ _ _ _ h=>h) ⟨⟨y,ab.out⟩,rfl⟩ ?_
  show wpQuiet _ _ _ _ [_] _
  go_big_quiet_step (fail)
  refine wpQuiet_nil ?_;refine uM (by decide +kernel) ?_
  clear x0 x1 x2 y0 y1 y2 C1 HD;have X:Hid (Below w.heap.size w y):=Zw HP.out.2.2 ab.out
  have aH:Hid (A.length≤3000000):=by
   show _≤_
   have:=yQ o.out.1 o.out.2.1 o.out.2.2
   have:=yQ z.out.1 z.out.2.1 z.out.2.2
   rw [HA.out,List.length_append];omega
  have aU:Hid (ms.length≤1048576):=HM.out.2;have au:Below y.heap.size y (y.alloc (.cells #[] 5)):=(Below.refl _ _).alloc (Nat.le_refl _) _;have aN:Hid ((y.alloc (.cells #[] 5)).ownsRow y.heap.size 5 1 (.slice (some ⟨y.heap.size,0,none⟩) 0 0) ([]:List UInt8).length (Lib.byteCells [])):=UM y;have a8:Hid (zu (y.alloc (.cells #[] 5)) (.slice b3 A.length c3) A):=zO bh.out au (Nat.le_refl _);have a5:Hid (y.heap.size≤(y.alloc (.cells #[] 5)).heap.size):=au.size;have bj:Hid (Below y.heap.size y (y.alloc (.cells #[] 5))):=au;have be:(.slice b3 A.length c3:Value)=.slice b3 A.length c3:=rfl;clear au be
  go_wp2_with (at_builtin;refine yx rfl _ _ rfl y.heap.size _ [] rfl aN.out _ A rfl a8.out (by have:=aH.out;simp only [List.length_nil];omega) a5.out ?_)
  intro v6 w6 T Z;have aC:Hid (Below y.heap.size y w6):=bj.out.grown Z a5.out (fun k hk=>by simp [Value.ownBlock] at hk;omega)
  have bc:Hid (w6.ownsRow y.heap.size 5 1 v6 A.length (Lib.byteCells A)):=T;have bg:Hid (∀k,v6.ownBlock=some k→y.heap.size≤k):=fun k hk=>(T.lt k hk).1
  have bd:Hid (zu w6 (.slice aF ms.length aO) ms):=zO HM.out.1 (X.out.trans (aC.out.mono X.out.size)) (Nat.le_refl _);have aZ:Hid (y.heap.size≤w6.heap.size):=aC.out.size;clear T Z
  go_wp2_with (at_builtin;refine yx rfl _ _ rfl y.heap.size _ A rfl bc.out _ ms rfl bd.out (by have:=aH.out;have:=aU.out;omega) aZ.out ?_)
  intro v7 w7 ag Y;have Q:Hid (Below y.heap.size y w7):=aC.out.grown Y aZ.out bg.out;have aQ:Hid (Below w.heap.size w w7):=X.out.trans (Q.out.mono X.out.size);have cn:=yg v7 (A++ms) w7 (zT ag) (by have:=aH.out;have:=aU.out;rw [List.length_append];omega)
  clear ag Y;go_wp2_with fail
  refine cn.mono ?_;clear cn;rintro e w8 ⟨p,base,aW,rfl,a3,ak,aj,L,aE⟩
  have bk:Hid (Below w.heap.size w w8∧w8.heap[w.heap.size]?=some (yP k n s)∧w8.heap[w.heap.size+1]?=some (yP k' n' s')∧w.heap.size+1<p∧∀a,base=some a→a.block<w8.heap.size):=by
   have aY:Below D.heap.size D w8:=ab.out.trans ((Q.out.trans (aE.mono Q.out.size)).mono ab.out.size);have q1:=ZW HP.out.2.1;have z1:=ab.out.size;have z2:=Q.out.size;exact ⟨Zw aQ.out aE,(aY.block _ (ZW HP.out.1)).trans HP.out.1,(aY.block _ q1).trans HP.out.2.1,by omega,fun a ha=>(L a ha).2⟩
  have e1:y6 (A++ms) 0 0=((k,n,s),(Zk k n s).length,0):=by
   have:=Yi [] (Zk k' n' s'++ms) k n s o.out.1 o.out.2.1 o.out.2.2
   rw [List.nil_append,if_neg aV.out.1] at this;rw [HA.out,List.append_assoc];exact this.trans (by simp)
  have e2:y6 (A++ms) (Zk k n s).length 0=((k',n',s'),A.length,0):=by
   have:=Yi (Zk k n s) ms k' n' s' z.out.1 z.out.2.1 z.out.2.2
   rw [if_neg aV.out.2] at this;rw [HA.out,this,List.length_append]
  have E2:Hid (y6 (A++ms) (Zk k n s).length 0=((k',n',s'),A.length,0)):=e2;have G:=Yf a3 (fun a ha=>(L a ha).2)
  rw [e1] at G
  unfold Zz at G
  simp only at G;clear a3 ak aj L aE e1 e2;go_wp2_with fail
  refine G.mono ?_;clear G;rintro e w9 ⟨rfl,aX,an⟩;have h8:=bk.out
  have a9:Hid (Below w.heap.size w w9∧w9.heap[w.heap.size]?=some (yP k n s)∧w9.heap[w.heap.size+1]?=some (yP k' n' s')∧w.heap.size+1<p) :=
   ⟨h8.1.grown an h8.1.size (fun k hk=>by cases hk;omega),ZA an h8.2.1 (by omega),ZA an h8.2.2.1 (by omega),h8.2.2.2.1⟩
  have G:=Yf aX (fun a ha=>by have:=h8.2.2.2.2 a ha;have:=an.size;omega)
  rw [E2.out] at G
  unfold Zz at G
  simp only at G;clear aX an h8 E2;go_wp2_with fail
  refine G.mono ?_;clear G;rintro e w10 ⟨rfl,ax,aa⟩;have h9:=a9.out;obtain ⟨aI,aB,O,aT,a6,aL⟩:=XN w10 (yP k n s) (yP k' n' s');have d1:=ZA aa h9.2.1 (by omega)
  have d2:=ZA aa h9.2.2.1 (by omega)
  have ae:Below w.heap.size w w10:=h9.1.grown aa h9.1.size (fun k hk=>by cases hk;omega)
  have az:Hid (Below w.heap.size w aI):=Zw ae O;obtain ⟨a0,a1,a2,-⟩:=zh ((O.block _ (ZW d1)).trans d1);obtain ⟨b0,b1,b2,-⟩:=zh ((O.block _ (ZW d2)).trans d2);obtain ⟨q0,q1,q2,-⟩:=zh a6;obtain ⟨r0,r1,r2,-⟩:=zh aL;have ad:=ax.below O (Nat.le_refl _);have ca:=UB ad;have ce:=ZY ad;have aA:Hid (aI=(w10.alloc (yP k n s)).alloc (yP k' n' s')):=aB;clear ax aa h9 aB O aT a6 aL d1 d2 ae ad
  go_upto_region 12 with fail
  rw [←aA.out];clear aA;go_wp2_with fail
  refine ca.mono ?_;clear ca;rintro e wx ⟨rfl,rfl⟩;go_wp2_with fail
  refine ce.mono ?_;clear ce;rintro e wx ⟨rfl,rfl⟩;have cl:=yO aI (HQ.out.below az.out);go_wp2_with fail
  refine cl.mono ?_;clear cl a0 a1 a2 b0 b1 b2 q0 q1 q2 r0 r1 r2;rintro e bb ⟨rfl,aw⟩;have a4:Hid (Below w.heap.size w bb):=Zw az.out aw;clear aw;go_wp2
  go_ret
  exact ⟨rfl,a4.out⟩
end Go.Proofs.YtmbofhpmockmbaaGreatDoor
