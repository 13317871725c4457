import Derived.Test.YtpejpbbdgblbeaaGreatDoorMC50
import Derived.Test.YtpejpbbdgblbeaaGreatDoorMC31
import Derived.Test.YtpejpbbdgblbeaaGreatDoorMC35
import Derived.Test.YtpejpbbdgblbeaaGreatDoorMC24
namespace Go.Proofs.YtpejpbbdgblbeaaGreatDoor
open Go.RowKit Go.Shelf
set_option maxHeartbeats 16000000
set_option maxRecDepth 100000
theorem zap {P:Tk→Prop} {g:Tk→Tk} (h:∀t,P t→g t=t):∀{l:List Tk},(∀t∈l,P t)→l.map g=l
 | [],_=>rfl
 | t::ts,hP=>by rw [List.map_cons,h t (hP t (List.mem_cons_self ..)),zap h fun x hx=>hP x (List.mem_cons_of_mem _ hx)]
def Vo (a:Nat):Nat:=min a 5000
theorem zbr {l:List UInt8} (hl:l.length≤4000) {x:Pg} {a e:Nat} (h:Z4 l x a e):a≤5000∧Ys Vo x=x:=by
 have J:=Qv l
 unfold Z4 at h
 by_cases hc:(zM l).2.2≠0
 ·rw [if_pos hc] at h
  obtain ⟨rfl,rfl,rfl⟩:=h;exact ⟨by omega,rfl⟩
 ·rw [if_neg hc] at h
  have G:=xm l (by simpa using hc)
  obtain ⟨f,r,z,o⟩:=h
  have L:(zM l).1.map (YR Vo Vo)=(zM l).1:=zap (P:=fun t=>t.line≤5000∧t.at0≤5000) (fun t ht=>by
   obtain ⟨k,s,n,line,at0⟩:=t;obtain ⟨z,o⟩:=ht;simp only at z o
   unfold YR Vo
   simp only
   rw [Nat.min_eq_left z,Nat.min_eq_left o]) fun t ht=>by have:=J.2 t ht;omega
  have A:=uk Vo Vo f [] [] _ G;rw [L,show ([]:List Rc).map (zdP Vo)=[] from rfl,show ([]:List Fc).map (za8 Vo)=[] from rfl,z] at A
  rcases r with b | ⟨y,H⟩
  ·have D:b=Vo b:=by simpa [xO] using A
   simp only [ZV] at o;obtain ⟨rfl,rfl,rfl⟩:=o;exact ⟨by unfold Vo at D;omega,rfl⟩
  ·have D:y=Ys Vo y:=by
    simp only [xO,Option.some.injEq,Except.ok.injEq,Prod.mk.injEq] at A;exact A.1
   obtain ⟨K,-,-⟩:=xp f [] [] _ y H z G (qV l) (by have:=Y5 l;omega) rfl rfl
   have I:ZV (.ok (y,H))=.ok y:=by unfold ZV;simp only [if_pos K]
   simp only [I] at o
   by_cases h24:24<depthFs y.funs
   ·rw [if_pos h24] at o
    obtain ⟨rfl,rfl,rfl⟩:=o;exact ⟨Nat.zero_le _,rfl⟩
   ·rw [if_neg h24] at o
    obtain ⟨rfl,rfl,rfl⟩:=o;exact ⟨Nat.zero_le _,D.symm⟩
mutual
theorem zfe (fl:Nat→Nat):∀(x:Ex) (z:Int),z∈Yb (VG (Xu fl x))→∃m,z=(fl m:Int)
 | .mk k s m kids line,z,h=>by
  rw [Xu,VG,Yb] at h;rcases List.mem_cons.1 h with rfl | h
  ·exact ⟨line,rfl⟩
  ·exact qX fl kids z h
theorem qX (fl:Nat→Nat):∀(l:List Ex) (z:Int),z∈yv (Yh (xw fl l))→∃m,z=(fl m:Int)
 | [],z,h=>by rw [xw,Yh,yv] at h;cases h
 | x::xs,z,h=>by
  rw [xw,Yh,yv] at h;rcases List.mem_append.1 h with h | h
  ·exact zfe fl x z h
  ·exact qX fl xs z h
end
mutual
theorem zff (fl:Nat→Nat):∀(x:St) (z:Int),z∈V8 (qY (UF fl x))→∃m,z=(fl m:Int)
 | .mk k s es b c line,z,h=>by
  rw [UF,qY,V8] at h;rcases List.mem_cons.1 h with rfl | h
  ·exact ⟨line,rfl⟩
  rcases List.mem_append.1 h with h | h
  ·exact qX fl es z h
  rcases List.mem_append.1 h with h | h
  ·exact Vp fl b z h
  ·exact Vp fl c z h
theorem Vp (fl:Nat→Nat):∀(l:List St) (z:Int),z∈Zi (Yr (yX fl l))→∃m,z=(fl m:Int)
 | [],z,h=>by rw [yX,Yr,Zi] at h;cases h
 | x::xs,z,h=>by
  rw [yX,Yr,Zi] at h;rcases List.mem_append.1 h with h | h
  ·exact zff fl x z h
  ·exact Vp fl xs z h
end
theorem zbR (fl:Nat→Nat):∀(l:List Fc) (z:Int),z∈YM ((l.map (za8 fl)).map fcz)→∃m,z=(fl m:Int)
 | [],z,h=>by cases h
 | x::xs,z,h=>by
  rw [List.map_cons,List.map_cons,YM] at h;rcases List.mem_append.1 h with h | h
  ·rcases List.mem_cons.1 h with rfl | h
   ·exact ⟨x.line,rfl⟩
   ·exact Vp fl x.body z h
  ·exact zbR fl xs z h
theorem zfg (fl:Nat→Nat) (x:Pg) (z:Int) (h:z∈lnsP (pgz (Ys fl x))):∃m,z=(fl m:Int):=by
 unfold lnsP at h
 rcases List.mem_append.1 h with h | h
 ·unfold XP at h
  obtain ⟨y,o,rfl⟩:=List.mem_map.1 h
  unfold pgz Ys at o
  simp only [List.map_map] at o;obtain ⟨u,_,rfl⟩:=List.mem_map.1 o;exact ⟨u.line,rfl⟩
 ·exact zbR fl x.funs z h
theorem zef {x:Pg} (h:Ys Vo x=x):∀z∈lnsP (pgz x),0≤z∧z≤5000:=fun z hz=>by
 rw [←h] at hz;obtain ⟨m,rfl⟩:=zfg Vo x z hz
 unfold Vo
 omega
def UL (w:World) (L:List Int) (v:Value):Prop:=∃(b:Option Addr) (cap:Nat),v=.slice b L.length cap∧∀(i:Nat) (z:Int),L[i]?=some z→∃g,b=some ⟨g,0,none⟩∧g<w.heap.size∧w.cell? ⟨g,i,none⟩=some (.int .i64 z)
theorem UL.of {B:Nat} {w:World} {L:List Int} {v:Value} (h0:L=[]→v=.slice none 0 0) (h:w.ownsRow B 3 1 v L.length (ZP L)):UL w L v:=by
 by_cases hL:L=[]
 ·subst hL
  exact ⟨none,0,h0 rfl,fun i z hz=>by simp at hz⟩
 ·rcases h.2 with ⟨_,o⟩ | ⟨g,s,A,o,K,D,G,I,H,J⟩
  ·exact absurd (List.length_eq_zero_iff.1 o) hL
  ·refine ⟨_,s,o,fun i z hz=>⟨g,rfl,(Array.getElem?_eq_some_iff.1 D).1,?_⟩⟩
   have y:=h.cells (g:=g) (by rw [o];rfl) i (.int .i64 z) (by unfold ZP;rw [List.getElem?_map,hz];rfl)
   by_cases h9:i=0
   ·subst h9;simpa [Addr.add] using y
   ·simpa [Addr.add,h9] using y
theorem UL.below {w W:World} {L:List Int} {v:Value} (h:UL w L v) (hb:Below w.heap.size w W):UL W L v:=by
 obtain ⟨b,o,e,h⟩:=h;refine ⟨b,o,e,fun i z hz=>?_⟩
 obtain ⟨g,e,s,y⟩:=h i z hz;exact ⟨g,e,Nat.lt_of_lt_of_le s hb.size,(hb.cell (p:=⟨g,i,none⟩) s).trans y⟩
theorem zeg (s:List UInt8) (n:Nat) (w:World) (hS:XL w) (h1:s.length≤3000) (h3:n≤500) :
  Calls Tryz.prog 7 #[.string (zb s),.int .i64 n] w fun e w'=>e=.returned (.bool true)∧Below w.heap.size w w':=by
 have bq:(zb s).size=s.length:=rfl;have HS:Hid (∀W,Below w.heap.size w W→XL W):=fun W hW=>hS.below hW
 have bv:Hid (Below w.heap.size w w):=Below.refl _ _;have c1:=qL s w hS.1.1 hS.2.1 hS.2.2;have C1:=(show Hid _ from c1)
 have d1:decide ((3000:Int)<s.length)=false:=by simp;omega
 have d3:decide ((n:Int)<0)=false:=by simp
 have d4:decide ((500:Int)<n)=false:=by simp;omega
 clear hS c1
 go_enter Tryz.func7,Tryz.ntmps7
 go_wp2
 go_loopw [5,6] (fun vt vi wr=>∃k:Nat,k≤n∧vt=.string (zb (List.replicate k 10))∧vi=.int .i64 k∧w=wr) (fun _ vi _=>n-(intOf vi).toNat)
 case atStart=>exact ⟨0,Nat.zero_le _,rfl,rfl,rfl⟩
 case round =>
  obtain ⟨k,hk,rfl,rfl,rfl⟩:=hrel;have hz:(zb (List.replicate k 10)).size=k:=by rw [Zb,List.length_replicate]
  by_cases hlt:k<n
  ·go_wp2
   refine ⟨⟨k+1,by omega,?_,by go_num,by first | rfl | trivial⟩,?_⟩
   ·rw [List.replicate_succ',←VR]
   ·simp [intOf];omega
  ·obtain rfl:k=n:=by omega
   clear hlt hk;go_wp2_with fail
   refine Calls.mono C1.out ?_;clear C1;rintro e w1 ⟨x,at0,bp,v,rfl,hI,hx,ar⟩;obtain ⟨s0,s1,Z,e0,V,Y,rfl⟩:=xu.agg hx;obtain ⟨A,hA⟩:∃A,A=w1.heap.size:=⟨_,rfl⟩;obtain ⟨w2,af⟩:∃w2,w2=w1.alloc (.cells #[.slice s0 s1 Z,.slice e0 V Y] 25):=⟨_,rfl⟩;have T:Below w.heap.size w w2:=by rw [af];exact ar.alloc ar.size _
   have pA:w2.heap[A]?=some (.cells #[.slice s0 s1 Z,.slice e0 V Y] 25 (0,0)):=by rw [af,hA];exact World.alloc_heap_new _ _
   have ag:yT w.heap.size w2 x (.agg #[.slice s0 s1 Z,.slice e0 V Y]):=by rw [af];exact yT.kept hx (by simp) fun i _ hi=>Below.heap_alloc _ _ _ hi
   have H2:Hid (Below w.heap.size w w2∧w2.heap[A]?=some (.cells #[.slice s0 s1 Z,.slice e0 V Y] 25 (0,0))∧yT w.heap.size w2 x (.agg #[.slice s0 s1 Z,.slice e0 V Y])):=⟨T,pA,ag⟩;have am:=HS.out w2 T;have c2:=qL (ZZ k s) w2 am.1.1 am.2.1 am.2.2;have HI:Hid (Z4 s x at0 bp):=hI;have aL:Hid (zb (List.replicate k 10)++zb s=zb (ZZ k s)):=VR _ _;have a6:=af.symm;have bs:=hA.symm;clear T pA ag af hA hx ar hI am;go_wp2_with fail
   rw [aL.out];refine c2.mono ?_;clear c2 a6 bs hz bq d1 d3 d4;rintro e w3 ⟨x',bg,o,v',rfl,aw,ay,ax⟩;obtain ⟨a9,bh,aP⟩:=zao h1 h3 HI.out aw;subst a9 bh;obtain ⟨bw,aK⟩:=zbr (by omega) HI.out
   obtain ⟨aJ,bc,-⟩:=Vn HI.out;obtain ⟨aq,aD,-⟩:=Vn aw;obtain ⟨O,N,H,G,J,I,rfl⟩:=xu.agg ay;obtain ⟨T,pA,ag⟩:=H2.out;obtain ⟨B,hB⟩:∃B,B=w3.heap.size:=⟨_,rfl⟩;obtain ⟨w4,ab⟩:∃w4,w4=w3.alloc (.cells #[.slice O N H,.slice G J I] 25):=⟨_,rfl⟩;have ae:Below w2.heap.size w2 w4:=by rw [ab];exact ax.alloc ax.size _
   have a7:A<w2.heap.size:=(Array.getElem?_eq_some_iff.1 pA).1;have az:=(ae.block _ a7).trans pA;have aA:w4.heap[B]?=some (.cells #[.slice O N H,.slice G J I] 25 (0,0)):=by rw [ab,hB];exact World.alloc_heap_new _ _
   have aF:yT w.heap.size w4 x (.agg #[.slice s0 s1 Z,.slice e0 V Y]):=yT.kept ag ae.size fun i _ hi=>ae.block i hi
   have ao:yT w2.heap.size w4 (Ys (·+k) x) (.agg #[.slice O N H,.slice G J I]):=by rw [ab];exact yT.kept ay (by simp) fun i _ hi=>Below.heap_alloc _ _ _ hi
   have aj:Xi w4.heap.size w4 (hiPg x) (pgz x) (.agg #[.slice s0 s1 Z,.slice e0 V Y]):=xu.pz aF (fun i _ hi=>hi) aJ
   have D:Xi w4.heap.size w4 (hiPg (Ys (·+k) x)) (pgz (Ys (·+k) x)) (.agg #[.slice O N H,.slice G J I]):=xu.pz ao (fun i _ hi=>hi) aq
   have aW:hiPg (Ys (·+k) x)=hiPg x:=zfd _ _;rw [aW] at D;have ah:Below w.heap.size w w4:=zl T ae;have aC:=zgk (·+k) x;have bn:=zfc k x;have aT:=zef aK;have au:(lnsP (pgz x)).length≤1099511627776:=by rw [zaj];omega
   have ap:(lnsP (pgz (Ys (·+k) x))).length≤1099511627776:=by rw [zaj];omega
   generalize pgz (Ys (·+k) x)=y' at *;generalize pgz x=y at *;generalize hiPg x=hh at *;have CS:Hid (Calls Tryz.prog 10 #[.agg #[.slice s0 s1 Z,.slice e0 V Y],.agg #[.slice O N H,.slice G J I]] w4 fun e w'=>e=.returned (.bool true)∧Below w4.heap.size w4 w'):=V7 hh y y' _ _ w4 aj D aC
   have aM:Hid (∀W,Below w4.heap.size w4 W→Calls Tryz.prog 12 #[.agg #[.slice s0 s1 Z,.slice e0 V Y]] W (LnP W (lnsP y))):=fun W hW=>qj hh y _ W (Xi.wide hW.size (Xi.kept hW aj)) au
   have aQ:Hid (∀W,Below w4.heap.size w4 W→Calls Tryz.prog 12 #[.agg #[.slice O N H,.slice G J I]] W (LnP W (lnsP y'))):=fun W hW=>qj hh y' _ W (Xi.wide hW.size (Xi.kept hW D)) ap
   have bd:Hid (∀W,Below w4.heap.size w4 W→Calls Tryz.prog 13 #[] W fun e w'=>e=.returned (.bool true)∧Below W.heap.size W w'):=fun W hW=>V0 W (HS.out W (zl ah hW))
   generalize lnsP y=L at *;generalize lnsP y'=L' at *;subst bn;have aS:Hid (Below w.heap.size w w4):=ah;have aU:Hid (∀z∈L,0≤z∧z≤5000):=aT;have U:Hid (w4.heap[A]?=some (.cells #[.slice s0 s1 Z,.slice e0 V Y] 25 (0,0))∧w4.heap[B]?=some (.cells #[.slice O N H,.slice G J I] 25 (0,0))):=⟨az,aA⟩;have bo:Hid (o≠0→o≠7→bg=at0+k):=aP;have a4:Hid (L.length≤1099511627776):=au;obtain ⟨m0,m1,-⟩:=Zv az;obtain ⟨n0,n1,-⟩:=Zv aA;have aG:=ab.symm;have bf:=hB.symm;clear T pA ag ab hB ay ax aw aJ aq bc aD ae a7 az aA aF ao aj D ah au ap aC aT aK H2 HI aP aW
   have ai:Hid (∀W,Below w4.heap.size w4 W→W.cell? ⟨A,0,none⟩=some (.slice s0 s1 Z)∧W.cell? ⟨A,1,none⟩=some (.slice e0 V Y)∧W.cell? ⟨B,0,none⟩=some (.slice O N H)∧W.cell? ⟨B,1,none⟩=some (.slice G J I)):=fun W hW=>by
    obtain ⟨a0,a1,-⟩:=Zv ((hW.block _ (Array.getElem?_eq_some_iff.1 U.out.1).1).trans U.out.1);obtain ⟨b0,b1,-⟩:=Zv ((hW.block _ (Array.getElem?_eq_some_iff.1 U.out.2).1).trans U.out.2);exact ⟨a0,a1,b0,b1⟩
   go_wp2_with fail
   refine CS.out.mono ?_;clear CS m0 m1 n0 n1 aG bf;rintro e w5 ⟨rfl,aI⟩;have bb:Hid (Below w4.heap.size w4 w5):=aI;clear aI;have bj:o=0∨o=7∨(o≠0∧o≠7):=by omega
   have br:IntKind.i64.wrap ((at0:Int)+(k:Int))=(at0:Int)+(k:Int):=by rw [IntKind.wrap_i64];omega
   obtain ⟨a0,a1,b0,b1⟩:=ai.out w4 (Below.refl _ _);have ad:A<w4.heap.size:=(Array.getElem?_eq_some_iff.1 U.out.1).1;have aa:B<w4.heap.size:=(Array.getElem?_eq_some_iff.1 U.out.2).1;have x0:=z7 (n:=w4.heap.size) a0 ad;have x1:=z7 (n:=w4.heap.size) a1 ad;have y0:=z7 (n:=w4.heap.size) b0 aa;have y1:=z7 (n:=w4.heap.size) b1 aa;clear a0 a1 b0 b1 ad aa ai;have ak:Hid (Below w4.heap.size w4 w5.drew):=bb.out.drew;rcases bj with rfl | rfl | ⟨q0,q7⟩
   rotate_left 2
   have ba:=bo.out q0 q7;subst ba;have r0:((o:Int)==0)=false:=by rw [beq_eq_false_iff_ne];omega
   have r7:((o:Int)==7)=false:=by rw [beq_eq_false_iff_ne];omega
   have v0:((o:Int) != 0)=true:=by simp [bne,r0]
   have v7:((o:Int) != 7)=true:=by simp [bne,r7]
   have j0:¬ (o:Int)=0:=by omega
   have j7:¬ (o:Int)=7:=by omega
   all_goals
    go_wp2_with fail
    refine xZ (n:=6) (S:=fun w'=>∃c:Cls w4.heap.size w4,w'=c.1) (by kernel_rfl) rfl rfl ?_
    refine Z8 (fuel:=4) (fuel':=6) (idx:=[0,2]) (by decide +kernel) rfl rfl rfl (fun _ _ _ _ _ h=>h) ⟨⟨w5.drew,ak.out⟩,rfl⟩ ?_
    show wpQuiet _ _ _ _ [_,_] _
    iterate 2 (go_big_quiet_step (fail))
    refine wpQuiet_nil ?_;refine Za (fuel:=3) (fuel':=4) (i:=1) rfl (by decide +kernel) rfl rfl (by rfl) ?_
    intro K hK;go_simp;refine (aM.out _ ak.out).mono ?_;rintro e w6 ⟨u1,rfl,aB,a8,aH⟩;have al:Hid (Below w4.heap.size w4 w6):=ak.out.trans (aH.mono ak.out.size);have aX:Hid (UL w6 L u1):=UL.of aB a8;clear aH a8 aB
    (try go_simp)
    refine hK.out _ _ ⟨⟨w6,al.out⟩,rfl⟩ ?_;clear hK K;refine Za (fuel:=2) (fuel':=3) (i:=3) rfl (by decide +kernel) rfl rfl (by rfl) ?_
    intro K hK;go_simp;refine (aQ.out _ al.out).mono ?_;rintro e Q ⟨u2,rfl,aE,aO,av⟩;have an:Hid (Below w4.heap.size w4 Q):=al.out.trans (av.mono al.out.size);have aV:Hid (UL Q (L.map (·+(k:Int))) u2):=UL.of aE aO;have aY:Hid (UL Q L u1):=aX.out.below av;clear av aO aE aX
    (try go_simp)
    refine hK.out _ _ ⟨⟨Q,an.out⟩,rfl⟩ ?_;clear hK K;refine Z8 (fuel:=0) (fuel':=2) (idx:=[4,5]) (by decide +kernel) rfl rfl rfl (fun _ _ _ _ _ h=>h) ⟨⟨Q,an.out⟩,rfl⟩ ?_
    show wpQuiet _ _ _ _ [_,_] _
    iterate 2 (go_big_quiet_step (fail))
    refine wpQuiet_nil ?_;refine yQ (by decide +kernel) ?_
    obtain ⟨b,bu,rfl,hx⟩:=aY.out;obtain ⟨b',bt,rfl,hy⟩:=aV.out;rw [List.length_map];have HX:Hid (∀(i:Nat) (z:Int),L[i]?=some z→∃g,b=some ⟨g,0,none⟩∧g<Q.heap.size∧Q.cell? ⟨g,i,none⟩=some (.int .i64 z)):=hx;have HY:Hid (∀(i:Nat) (z:Int),(L.map (·+(k:Int)))[i]?=some z→∃g,b'=some ⟨g,0,none⟩∧g<Q.heap.size∧Q.cell? ⟨g,i,none⟩=some (.int .i64 z)):=hy;have a2:=a4.out;obtain ⟨m,hm⟩:∃m,m=L.length:=⟨_,rfl⟩;have a3:Hid (m=L.length):=hm;rw [←hm] at a2 ⊢;clear hx hy aV aY x0 x1 y0 y1 aM aQ hm br;go_wp2_with fail
    go_loopw [15] (fun vi wr=>∃i:Nat,i≤m∧vi=.int .i64 (i:Int)∧Below Q.heap.size Q wr) (fun vi _=>m-(intOf vi).toNat)
    case atStart=>exact ⟨0,Nat.zero_le _,rfl,Below.refl _ _⟩
    case round =>
     obtain ⟨i,hi,rfl,a5⟩:=hrel;have R:Hid (Below Q.heap.size Q wr):=a5;clear a5
     by_cases hlt:i<m
     ·have be:(i:Int)<m:=by omega
      obtain ⟨z,hz⟩:∃z,L[i]?=some z:=⟨L[i]'(by rw [←a3.out];exact hlt),List.getElem?_eq_getElem (by rw [←a3.out];exact hlt)⟩
      obtain ⟨g,rfl,hg,hc⟩:=HX.out i z hz;obtain ⟨g',rfl,aZ,aN⟩:=HY.out i (z+k) (by rw [List.getElem?_map,hz];rfl)
      have V:=(R.out.cell (p:=⟨g,i,none⟩) hg).trans hc;have Y:=(R.out.cell (p:=⟨g',i,none⟩) aZ).trans aN;have bi:=aU.out z (List.mem_of_getElem? hz);have bx:IntKind.i64.wrap (z+(k:Int))=z+(k:Int):=by rw [IntKind.wrap_i64];omega
      have bk:Hid (Below Q.heap.size Q wr.drew):=R.out.drew;clear hg hc aZ aN hz bi;go_wp2_with fail
      go_region
      go_wp2
      exact ⟨⟨i+1,by omega,by go_num,bk.out⟩,by simp [intOf];omega⟩
     ·obtain rfl:i=m:=by omega
      have be:¬ (i:Int)<i:=by omega
      have cl:=bd.out wr (zl an.out R.out);have bl:Hid (∀W,Below wr.heap.size wr W→Below w.heap.size w W):=fun W hW=>aS.out.trans ((zl (zl an.out R.out) hW).mono aS.out.size)
      clear HX HY R aU;go_wp2_with fail
      refine cl.mono ?_;clear cl;rintro e w9 ⟨rfl,aR⟩;have bm:Hid (Below w.heap.size w w9):=bl.out _ aR;clear aR;go_wp2
      exact bodyPost_ret (v:=.bool true) (by simp [results,Tryz.results7,go_sem]) rfl ⟨rfl,bm.out⟩
theorem zcV (s:List UInt8) (n:Int) (w:World) (hS:XL w) (hb:3000<s.length∨n<0∨500<n) :
  Calls Tryz.prog 7 #[.string (zb s),.int .i64 n] w fun e w'=>e=.returned (.bool true)∧Below w.heap.size w w':=by
 have D:(zb s).size=s.length:=rfl;have o:=V0 w hS;clear hS
 by_cases h1:3000<s.length
 ·have z:decide ((3000:Int)<s.length)=true:=by simp;omega
  clear hb
  go_enter Tryz.func7,Tryz.ntmps7
  go_wp2_with fail
  refine o.mono ?_;clear o;rintro e y ⟨rfl,h⟩;go_wp2
  exact bodyPost_ret (v:=.bool true) (by simp [results,Tryz.results7,go_sem]) rfl ⟨rfl,h⟩
 ·have z:decide ((3000:Int)<s.length)=false:=by simp;omega
  by_cases h2:n<0
  ·have A:decide (n<0)=true:=by simpa using h2
   clear hb
   go_enter Tryz.func7,Tryz.ntmps7
   go_wp2_with fail
   refine o.mono ?_;clear o;rintro e y ⟨rfl,h⟩;go_wp2
   exact bodyPost_ret (v:=.bool true) (by simp [results,Tryz.results7,go_sem]) rfl ⟨rfl,h⟩
  ·have A:decide (n<0)=false:=by simpa using h2
   have G:500<n:=by omega
   have H:decide (500<n)=true:=by simpa using G
   clear hb
   go_enter Tryz.func7,Tryz.ntmps7
   go_wp2_with fail
   refine o.mono ?_;clear o;rintro e y ⟨rfl,h⟩;go_wp2
   exact bodyPost_ret (v:=.bool true) (by simp [results,Tryz.results7,go_sem]) rfl ⟨rfl,h⟩
theorem zcW (s:List UInt8) (n:Int) (w:World) (hS:XL w) :
  Calls Tryz.prog 7 #[.string (zb s),.int .i64 n] w fun e w'=>e=.returned (.bool true)∧Below w.heap.size w w':=by
 by_cases h:3000<s.length∨n<0∨500<n
 ·exact zcV s n w hS h
 ·obtain ⟨k,rfl⟩:∃k:Nat,n=k:=⟨n.toNat,by omega⟩
  exact zeg s k w hS (by omega) (by omega)
end Go.Proofs.YtpejpbbdgblbeaaGreatDoor
