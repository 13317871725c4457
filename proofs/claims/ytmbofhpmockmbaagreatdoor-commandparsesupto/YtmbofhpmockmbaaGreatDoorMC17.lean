import Derived.Test.YtmbofhpmockmbaaGreatDoorMC14
import Derived.Deep.DeepCutAuto
import Derived.Deep.RegionHeld3
namespace Go.Proofs.YtmbofhpmockmbaaGreatDoor
open Go.RowKit Go.Shelf
set_option maxHeartbeats 16000000
set_option maxRecDepth 100000
theorem zc.drew (r:Nat) (w:World):zc r w w.drew:=⟨rfl,rfl,rfl,Nat.le_refl _,fun _ _ _=>rfl⟩
def yh (r g:Nat) (w2:World) (l:List Ex) (us:List Tk) (x0 x1 x2 x4:Value) (v:Value) (wx:World):Prop :=
 ∃(P:Nat) (d0:Option Addr) (d1 d2:Nat),v=.pointer (some ⟨P,0,none⟩)∧wx.heap[P]?=some (.cells #[x0,x1,x2,.slice d0 d1 d2,x4] 90 (0,0))∧zK (fun k=>w2.heap.size≤k∧k≠P) wx l (.slice d0 d1 d2)∧(∃o cap,zk r g o cap us wx)∧zc r w2 wx∧w2.heap.size≤P
theorem zK.low {S:Nat→Prop} {w:World} {l:List Ex} {v:Value} (h:zK S w l v):zK (fun k=>S k∧k<w.heap.size) w l v:=by
 rcases h with h | ⟨g,z,K,I,A,y,G,D,J,H,o,e,E⟩
 ·exact .inl h
 ·exact .inr ⟨g,z,K,I,A,y,⟨G,D⟩,D,J,H,o,e,fun j x c hx hc'=>zJ.low (E j x c hx hc')⟩
theorem yh.alloc {r g:Nat} {w2 W w7:World} {l:List Ex} {t:Tk} {us:List Tk} {d0:Option Addr} {d1 d2:Nat} (x0 x1 x2 x4:Value) (hW:zc r w2 W) (hk:zc r W w7) (hrow:Zw W.heap.size w7 l (.slice d0 d1 d2)) (h:∃o e,zk r g o e (t::us) w7) :
  yh r g w2 l (t::us) x0 x1 x2 x4 (.pointer (some ⟨w7.heap.size,0,none⟩)) (w7.alloc (.cells #[x0,x1,x2,.slice d0 d1 d2,x4] 90)):=by
 obtain ⟨o,e,h⟩:=h;have z:=hW.size;have y:=hk.size;refine ⟨w7.heap.size,d0,d1,d2,rfl,World.alloc_heap_new _ _,?_,⟨o,e,h.alloc _⟩,(hW.trans hk).alloc _,by omega⟩
 exact zK.wide (zK.kept (zK.low hrow) (by simp) fun k hk' _=>Below.heap_alloc _ _ _ hk'.2) fun k hk'=>⟨by omega,by omega⟩
theorem yh.set {r g P:Nat} {w2 W w7:World} {l:List Ex} {t:Tk} {us:List Tk} {d0:Option Addr} {d1 d2:Nat} (x0 x1 x2 x4:Value) (hW:zc r w2 W) (hk:zc r W w7) (hrow:Zw W.heap.size w7 l (.slice d0 d1 d2)) (h:∃o e,zk r g o e (t::us) w7)
  (hr:r<w2.heap.size) (hg:g<w2.heap.size) (hP:w2.heap.size≤P) (hPW:P<W.heap.size) (hb:w7.heap[P]?=some zL) :
  yh r g w2 l (t::us) x0 x1 x2 x4 (.pointer (some ⟨P,0,none⟩)) (set5 w7 P x0 x1 x2 (.slice d0 d1 d2) x4):=by
 obtain ⟨o,e,h⟩:=h;refine ⟨P,d0,d1,d2,rfl,Z8 hb _ _ _ _ _,?_,⟨o,e,h.keep (zi _ _ _ _ _ _ _ (by omega)) (zi _ _ _ _ _ _ _ (by omega))⟩,Zs (hW.trans hk) hP _ _ _ _ _,hP⟩
 exact zK.wide (zK.kept hrow (w':=set5 w7 P x0 x1 x2 (.slice d0 d1 d2) x4) (by simp) fun k hk' _=>zi _ _ _ _ _ _ _ (by omega)) fun k hk'=>⟨by have:=hW.size;omega,by omega⟩
def xB (t:Tk) (res:PR (List Ex)):PR Ex :=
 match res with
 | .error a=>.error a
 | .ok (l,us)=>if zm (zx us) [93]=true then .ok (.mk 10 [] 0 l t.line,us.tail) else .error (zx us).at0
theorem vK (r g o cap:Nat) (t:Tk) (ts:List Tk) (w:World) (res:PR (List Ex)) (hi:zm t [91]=true) (hEnd:∀l us,res=.ok (l,us)→zt us) (hex:∀w1 o1 cap1,zk r g o1 cap1 ts w1→zc r w w1→Calls Tryz.prog 178 #[.pointer (some ⟨r,0,none⟩),.func (.func 74) #[.pointer (some ⟨r,0,none⟩)] #[]] w1 (xn r g w1 res)) (h:zk r g o cap (t::ts) w) (hE:zt (t::ts)) (hk1:t.k≠1) (hk2:t.k≠2) (hk3:t.k≠3) (hiT:zm t [116,114,117,101]=false) (hiF:zm t [102,97,108,115,101]=false) (hiN:zm t [110,101,119]=false) :
  Calls Tryz.prog 168 #[.pointer (some ⟨r,0,none⟩)] w (zu r g w (xB t res)):=by
 generalize hres:xB t res=R;have aN:∀(fn:Fn) (first cap:Array Value) (w:World),(Instr.makeFunc fn first cap).run Tryz.prog w=.ok (.func fn first cap) w:=fun _ _ _ _=>rfl
 have hr:=h.lt.1;have aA:=h.lt.2;have h0:=h.alloc zL;have ch:=ZI r g o cap t ts _ h0;obtain ⟨w2,N⟩:∃w2,w2=((w.alloc zL).alloc (Zf t)).alloc (Zf t):=⟨_,rfl⟩;have h2:zk r g o cap (t::ts) w2:=by rw [N];exact (h0.alloc _).alloc _
 have k2:zc r w w2:=by rw [N];exact (((zc.refl r w).alloc _).alloc _).alloc _
 have n0:w2.heap[w.heap.size]?=some zL:=by
  rw [N,Below.heap_alloc _ _ _ (by simp;omega),Below.heap_alloc _ _ _ (by simp)]
  exact World.alloc_heap_new _ _
 have n2:w2.heap[w.heap.size+1+1]?=some (Zf t):=by
  have hx:=World.alloc_heap_new ((w.alloc zL).alloc (Zf t)) (Zf t);rw [←N,show ((w.alloc zL).alloc (Zf t)).heap.size=w.heap.size+1+1 by simp] at hx
  exact hx
 have ay:w.heap.size+1+1<w2.heap.size:=(Array.getElem?_eq_some_iff.1 n2).1;have ao:Hid (w2=((w.alloc zL).alloc (Zf t)).alloc (Zf t)):=N;have V:Hid (zc r w w2):=k2;have aC:Hid (w2.heap[w.heap.size]?=some zL):=n0;have aE:Hid (w2.heap[w.heap.size+1+1]?=some (Zf t)):=n2;have aH:¬(t.k:Int)=1:=by omega
 have aF:¬(t.k:Int)=2:=by omega
 have aG:¬(t.k:Int)=3:=by omega
 clear h h0 N k2 n0 n2
 go_enter Tryz.func168,Tryz.ntmps168
 go_wp2_with fail
 refine ch.mono ?_;clear ch;rintro e w1 ⟨rfl,rfl⟩;simp only [YQ];have ag:Hid (zc r w2 w2):=zc.refl r w2;have ae:Hid (zk r g o cap (t::ts) w2):=h2;clear h2;have J:=ZF r g o cap t ts [116,114,117,101] w2 ae.out (fun hi=>(hE.tail (zo hi)).ne)
 rw [hiT] at J;go_wp2_with fail
 rw [←ao.out];refine J.mono ?_;clear J;rintro e w3 ⟨rfl,A,z⟩;have ah:Hid (zc r w2 w3):=ag.out.trans A;have aj:Hid (zk r g o cap (t::ts) w3):=show zk _ _ _ _ _ _ by simpa using z
 clear A z ag ae;clear ao;have J:=ZF r g o cap t ts [102,97,108,115,101] w3 aj.out (fun hi=>(hE.tail (zo hi)).ne)
 rw [hiF] at J;go_wp2_with fail
 refine J.mono ?_;clear J;rintro e w4 ⟨rfl,A,z⟩;have af:Hid (zc r w2 w4):=ah.out.trans A;have ab:Hid (zk r g o cap (t::ts) w4):=show zk _ _ _ _ _ _ by simpa using z
 clear A z ah aj;have J:=ZF r g o cap t ts [110,101,119] w4 ab.out (fun hi=>(hE.tail (zo hi)).ne)
 rw [hiN] at J;go_wp2_with fail
 refine J.mono ?_;clear J;rintro e w5 ⟨rfl,A,z⟩;have ad:Hid (zc r w2 w5):=af.out.trans A;have ai:Hid (zk r g o cap (t::ts) w5):=show zk _ _ _ _ _ _ by simpa using z
 clear A z af ab;have J:=ZF r g o cap t ts [91] w5 ai.out (fun hi=>(hE.tail (zo hi)).ne)
 rw [hi] at J;go_wp2_with fail
 refine J.mono ?_;clear J;rintro e w6 ⟨rfl,A,z⟩;have X:zc r w2 w6:=ad.out.trans A;have ap:zk r g (o+5) (cap-1) ts w6:=by simpa using z
 have aB:=hE.tail (zo hi);obtain ⟨t6,Z,rfl⟩:=aB.cons;have p2:=(X.block _ ay (by omega)).trans aE.out
 obtain ⟨-,-,-,c3,-,-⟩:=ze p2;have aL:=zd c3;have aK:=X.size;have an:Hid (zc r w2 w6):=X;have aJ:Hid (w6.heap[w.heap.size+1+1]?=some (Zf t)):=p2
 have cb:∀W:World,zc r w6 W→zk r g (o+5) (cap-1) (t6::Z) W→Calls Tryz.prog 178 #[.pointer (some ⟨r,0,none⟩),.func (.func 74) #[.pointer (some ⟨r,0,none⟩)] #[]] W fun e w'=>zc r W w'∧xn r g W res e w':=fun W hK hR =>
  (hex W _ _ hR (V.out.trans (an.out.trans hK))).mono fun e w' h=>⟨h.1,h⟩
 have Q:Hid (zk r g (o+5) (cap-1) (t6::Z) w6):=ap;clear hex A z X ap p2 ad ai;rcases res with a | ⟨l,us⟩
 ·obtain rfl:R=.error a:=by rw [←hres];unfold xB;rfl
  have O:∀W:World,zc r w6 W→zk r g (o+5) (cap-1) (t6::Z) W→Calls Tryz.prog 178 #[.pointer (some ⟨r,0,none⟩),.func (.func 74) #[.pointer (some ⟨r,0,none⟩)] #[]] W fun e w'=>e=ZU a∧zc r w w':=fun W hK hR=>(cb W hK hR).mono fun e w' h=>⟨h.2.2,V.out.trans (an.out.trans (hK.trans h.1))⟩
  clear cb;go_wp2_with fail
  go_region_dies
  all_goals
   go_wp2_with fail
   refine (O _ ?_ ?_).mono ?_
   ·first | exact zc.drew r w6 | exact ((zc.refl r w6).alloc _).trans (zc.drew _ _)
   ·first | exact Q.out.keep rfl rfl | exact (Q.out.alloc _).keep rfl rfl
   ·rintro e w4 ⟨rfl,M⟩;exact ⟨rfl,M,rfl⟩
 ·have aq:=hEnd l us rfl
  obtain ⟨t3,I,rfl⟩:=aq.cons
  have O:∀W:World,zc r w6 W→zk r g (o+5) (cap-1) (t6::Z) W→Calls Tryz.prog 178 #[.pointer (some ⟨r,0,none⟩),.func (.func 74) #[.pointer (some ⟨r,0,none⟩)] #[]] W fun e w'=>∃(H:Option Addr) (E d2:Nat),e=.returned (.slice H E d2)∧w'.cell? ⟨w.heap.size+1+1,3,none⟩=some (.int .i64 t.line)∧W.heap.size≤w'.heap.size∧(W.heap[w6.heap.size]?=some zL→w'.heap[w6.heap.size]?=some zL) ∧
    Hid (zc r w2 W∧zc r W w'∧Zw W.heap.size w' l (.slice H E d2)∧∃o cap,zk r g o cap (t3::I) w'):=fun W hK hR=>(cb W hK hR).mono fun e w' h=>by
   obtain ⟨M,-,v,o4,av,rfl,G,T⟩:=h
   obtain ⟨H,E,d2,rfl⟩:∃H E d2,v=.slice H E d2:=by
    rcases G with ⟨-,rfl⟩ | ⟨_,_,_,rfl,_⟩
    ·exact ⟨_,_,_,rfl⟩
    ·exact ⟨_,_,_,rfl⟩
   refine ⟨H,E,d2,rfl,M.cell (p:=⟨w.heap.size+1+1,3,none⟩) (by simp;omega) (hK.cell (p:=⟨w.heap.size+1+1,3,none⟩) (by simp;omega) c3),M.size,fun hz=>?_,an.out.trans hK,M,G,o4,av,T⟩
   exact (M.block _ (Array.getElem?_eq_some_iff.1 hz).1 (by omega)).trans hz
  clear cb;go_wp2_with fail
  go_cut [5] (fun v wx=>yh r g w2 l (t3::I) (.int .i64 10) (.string ⟨#[]⟩) (.int .i64 0) (.int .i64 t.line) v wx)
  case first =>
   go_region_held3 (fun W=>W.cell? ⟨w.heap.size+1+1,3,none⟩=some (.int .i64 t.line)) (first | go_keep | exact Yu _ _ _ _ _ (by omega) m3 | exact Yu _ _ _ _ _ (by omega) (aD _)) (first | (go_at_call 178;refine (O _ (by first | exact zc.drew r w6 | exact ((zc.refl r w6).alloc _).trans (zc.drew _ _)) (by first | exact Q.out.keep rfl rfl | exact (Q.out.alloc _).keep rfl rfl)).mono ?_;rintro e' w7 ⟨H,E,d2,rfl,m3,aI,am,H7⟩;have aD:=zd m3;first | (have p6:=am (World.alloc_heap_new w6 _);obtain ⟨q0,q1,q2,q3,q4,qf⟩:=ze p6) | skip))
   all_goals (obtain ⟨U,Y,D,L⟩:=H7.out)
   all_goals first
    | (have HN:Hid (yh r g w2 l (t3::I) (.int .i64 10) (.string ⟨#[]⟩) (.int .i64 0) (.int .i64 t.line) (.pointer (some ⟨w6.heap.size,0,none⟩)) (set5 w7 w6.heap.size (.int .i64 10) (.string ⟨#[]⟩) (.int .i64 0) (.slice H E d2) (.int .i64 t.line))):=yh.set _ _ _ _ U Y D L (by omega) (by omega) (by omega) (by simp) p6
       clear O H7 U Y D L am;go_wp2_with fail
       go_meet
       exact HN.out)
    | (have HN:Hid (yh r g w2 l (t3::I) (.int .i64 10) (.string ⟨#[]⟩) (.int .i64 0) (.int .i64 t.line) (.pointer (some ⟨w7.heap.size,0,none⟩)) (w7.alloc (.cells #[.int .i64 10,.string ⟨#[]⟩,.int .i64 0,.slice H E d2,.int .i64 t.line] 90))):=yh.alloc _ _ _ _ U Y D L
       clear O H7 U Y D L am;go_wp2_with fail
       go_meet
       exact HN.out)
  case rest =>
   obtain ⟨P,H,E,d2,rfl,hP,G,⟨o3,ax,T⟩,hk,aM⟩:=hcut;have hs:w2.heap.size≤wc.heap.size:=hk.size;have aw:P<wc.heap.size:=(Array.getElem?_eq_some_iff.1 hP).1;have cn:=xV r g o3 ax t3 I [93] wc T (fun hi=>(aq.tail (zo hi)).ne)
   have ar:Hid (zc r w2 wc):=hk;have az:Hid (wc.heap[P]?=some (.cells #[.int .i64 10,.string ⟨#[]⟩,.int .i64 0,.slice H E d2,.int .i64 t.line] 90 (0,0))):=hP;have au:Hid (zK (fun k=>w2.heap.size≤k∧k≠P) wc l (.slice H E d2)):=G
   clear hP G T hk O
   by_cases hm:zm t3 [93]=true
   ·simp only [if_pos hm] at cn
    obtain rfl:R=.ok (.mk 10 [] 0 l t.line,I):=by rw [←hres];unfold xB;simp only [z7,hm,if_true,List.tail_cons]
    go_wp2_with fail
    refine cn.mono ?_;clear cn;rintro e ak ⟨y,rfl,aa⟩;have al:=ar.out.trans y;have p0:=(al.block _ (by omega) (by omega)).trans aC.out
    have pB:=(y.block _ aw (by omega)).trans az.out
    obtain ⟨e0,e1,e2,e3,e4,-⟩:=ze pB;obtain ⟨q0,q1,q2,q3,q4,qf⟩:=ze p0;obtain ⟨z0,z1,z2,z3,z4⟩:=zj p0 (.int .i64 10) (.string ⟨#[]⟩) (.int .i64 0) (.slice H E d2) (.int .i64 t.line);have K:Zw w2.heap.size ak l (.slice H E d2):=zK.wide (zK.kept au.out y.size fun k hk' hlt=>y.block k hlt (by omega)) fun k hk'=>hk'.1
    have HP:Hid (zu r g w (.ok (.mk 10 [] 0 l t.line,I)) (.returned (.agg #[.int .i64 10,.string ⟨#[]⟩,.int .i64 0,.slice H E d2,.int .i64 t.line])) (set5 ak w.heap.size (.int .i64 10) (.string ⟨#[]⟩) (.int .i64 0) (.slice H E d2) (.int .i64 t.line))) :=
     zu.of_set5 (B:=w2.heap.size) 10 [] 0 t.line (V.out.trans al) (Nat.le_refl _) hr aA K (by omega) aa
    clear al y aa p0 pB K;go_wp2
    exact bodyPost_ret (v:=.agg #[.int .i64 10,.string ⟨#[]⟩,.int .i64 0,.slice H E d2,.int .i64 t.line]) (by simp [results,Tryz.results168,go_sem,z0,z1,z2,z3,z4]) rfl HP.out
   ·simp only [if_neg hm] at cn
    obtain rfl:R=.error t3.at0:=by rw [←hres];unfold xB;simp only [z7,if_neg hm]
    go_wp2_with fail
    refine cn.mono ?_;clear cn;rintro e ak ⟨y,rfl⟩;exact ⟨rfl,V.out.trans (ar.out.trans y),rfl⟩
def VQ (t t6:Tk) (res:PR (List Ex)):PR Ex :=
 if t6.k=1 then
  match res with
  | .error a=>.error a
  | .ok (l,us)=>.ok (.mk 11 t6.s 0 l t.line,us)
 else .error t6.at0
theorem Xj (r g o cap:Nat) (t t6:Tk) (ts6:List Tk) (w:World) (res:PR (List Ex)) (hi:zm t [110,101,119]=true) (hbr:t6.k=1→∀V o1 cap1,zk r g o1 cap1 ts6 V→zc r w V→Calls Tryz.prog 177 #[.pointer (some ⟨r,0,none⟩),.func (.func 74) #[.pointer (some ⟨r,0,none⟩)] #[]] V (xn r g V res)) (h:zk r g o cap (t::t6::ts6) w) (hE:zt (t::t6::ts6)) (hk1:t.k≠1) (hk2:t.k≠2) (hk3:t.k≠3) (hiT:zm t [116,114,117,101]=false) (hiF:zm t [102,97,108,115,101]=false) :
  Calls Tryz.prog 168 #[.pointer (some ⟨r,0,none⟩)] w (zu r g w (VQ t t6 res)):=by
 generalize hres:VQ t t6 res=R;have aS:∀(fn:Fn) (first cap:Array Value) (w:World),(Instr.makeFunc fn first cap).run Tryz.prog w=.ok (.func fn first cap) w:=fun _ _ _ _=>rfl
 obtain ⟨ts,ax⟩:∃ts,ts=t6::ts6:=⟨_,rfl⟩;rw [←ax] at h hE;have hr:=h.lt.1;have aA:=h.lt.2;have h0:=h.alloc zL;have ch:=ZI r g o cap t ts _ h0;obtain ⟨w2,N⟩:∃w2,w2=((w.alloc zL).alloc (Zf t)).alloc (Zf t):=⟨_,rfl⟩;have h2:zk r g o cap (t::ts) w2:=by rw [N];exact (h0.alloc _).alloc _
 have k2:zc r w w2:=by rw [N];exact (((zc.refl r w).alloc _).alloc _).alloc _
 have n0:w2.heap[w.heap.size]?=some zL:=by
  rw [N,Below.heap_alloc _ _ _ (by simp;omega),Below.heap_alloc _ _ _ (by simp)]
  exact World.alloc_heap_new _ _
 have n2:w2.heap[w.heap.size+1+1]?=some (Zf t):=by
  have hx:=World.alloc_heap_new ((w.alloc zL).alloc (Zf t)) (Zf t);rw [←N,show ((w.alloc zL).alloc (Zf t)).heap.size=w.heap.size+1+1 by simp] at hx
  exact hx
 have ay:w.heap.size+1+1<w2.heap.size:=(Array.getElem?_eq_some_iff.1 n2).1;have ar:Hid (w2=((w.alloc zL).alloc (Zf t)).alloc (Zf t)):=N;have ad:Hid (zc r w w2):=k2;have aE:Hid (w2.heap[w.heap.size]?=some zL):=n0;have aH:Hid (w2.heap[w.heap.size+1+1]?=some (Zf t)):=n2;have aL:¬(t.k:Int)=1:=by omega
 have aJ:¬(t.k:Int)=2:=by omega
 have aK:¬(t.k:Int)=3:=by omega
 clear h h0 N k2 n0 n2
 go_enter Tryz.func168,Tryz.ntmps168
 go_wp2_with fail
 refine ch.mono ?_;clear ch;rintro e V ⟨rfl,rfl⟩;simp only [YQ];have ai:Hid (zc r w2 w2):=zc.refl r w2;have ag:Hid (zk r g o cap (t::ts) w2):=h2;clear h2;have U:=ZF r g o cap t ts [116,114,117,101] w2 ag.out (fun hi=>(hE.tail (zo hi)).ne)
 rw [hiT] at U;go_wp2_with fail
 rw [←ar.out];refine U.mono ?_;clear U;rintro e w3 ⟨rfl,H,E⟩;have aj:Hid (zc r w2 w3):=ai.out.trans H;have al:Hid (zk r g o cap (t::ts) w3):=show zk _ _ _ _ _ _ by simpa using E
 clear H E ai ag;clear ar;have U:=ZF r g o cap t ts [102,97,108,115,101] w3 al.out (fun hi=>(hE.tail (zo hi)).ne)
 rw [hiF] at U;go_wp2_with fail
 refine U.mono ?_;clear U;rintro e w4 ⟨rfl,H,E⟩;have ah:Hid (zc r w2 w4):=aj.out.trans H;have af:Hid (zk r g o cap (t::ts) w4):=show zk _ _ _ _ _ _ by simpa using E
 clear H E aj al;have U:=ZF r g o cap t ts [110,101,119] w4 af.out (fun hi=>(hE.tail (zo hi)).ne)
 rw [hi] at U;go_wp2_with fail
 refine U.mono ?_;clear U;rintro e w5 ⟨rfl,H,E⟩;have aa:zc r w2 w5:=ah.out.trans H;have an:zk r g (o+5) (cap-1) ts w5:=by simpa using E
 have ap:=hE.tail (zo hi);subst ax;have p2:=(aa.block _ ay (by omega)).trans aH.out
 obtain ⟨-,-,-,c3,-,-⟩:=ze p2;have aQ:=zd c3;have aN:=aa.size;have aq:Hid (zc r w2 w5):=aa
 have cb:∀W:World,zc r w5 W→zk r g (o+5) (cap-1) (t6::ts6) W→Calls Tryz.prog 171 #[.pointer (some ⟨r,0,none⟩)] W fun e w'=>zc r W w'∧if t6.k=1 then e=.returned (.string (za t6.s))∧zk r g (o+5+5) (cap-1-1) ts6 w' else e=ZU t6.at0:=fun W hK hR =>
  VI r g _ _ t6 ts6 W hR (fun hk=>(ap.tail (by omega)).ne)
 have X:Hid (zk r g (o+5) (cap-1) (t6::ts6) w5):=an;clear H E aa an p2 ah af
 by_cases h6:t6.k=1
 ·have aC:=ap.tail (by omega:t6.k≠0)
  obtain ⟨t7,M,rfl⟩:=aC.cons
  have O:∀W:World,zc r w5 W→zk r g (o+5) (cap-1) (t6::t7::M) W→Calls Tryz.prog 171 #[.pointer (some ⟨r,0,none⟩)] W fun e w'=>e=.returned (.string (za t6.s))∧w'.cell? ⟨w.heap.size+1+1,3,none⟩=some (.int .i64 t.line)∧W.heap.size≤w'.heap.size∧(W.heap[w5.heap.size]?=some zL→w'.heap[w5.heap.size]?=some zL) ∧
    Hid (zc r w2 W∧zc r W w'∧zk r g (o+5+5) (cap-1-1) (t7::M) w'):=fun W hK hR=>(cb W hK hR).mono fun e w' h=>by
   obtain ⟨G,y⟩:=h;rw [if_pos h6] at y;obtain ⟨rfl,I⟩:=y;refine ⟨rfl,G.cell (p:=⟨w.heap.size+1+1,3,none⟩) (by simp;omega) (hK.cell (p:=⟨w.heap.size+1+1,3,none⟩) (by simp;omega) c3),G.size,fun hz=>?_,aq.out.trans hK,G,I⟩
   exact (G.block _ (Array.getElem?_eq_some_iff.1 hz).1 (by omega)).trans hz
  have au:Hid (∀V o1 cap1,zk r g o1 cap1 (t7::M) V→zc r w V→Calls Tryz.prog 177 #[.pointer (some ⟨r,0,none⟩),.func (.func 74) #[.pointer (some ⟨r,0,none⟩)] #[]] V (xn r g V res)):=hbr h6;clear cb hbr;go_wp2_with fail
  go_cut [4] (fun v wx=>yh r g w2 [] (t7::M) (.int .i64 11) (.string (za t6.s)) (.int .i64 0) (.int .i64 t.line) v wx)
  case first =>
   go_region_held3 (fun W=>W.cell? ⟨w.heap.size+1+1,3,none⟩=some (.int .i64 t.line)) (first | go_keep | exact Yu _ _ _ _ _ (by omega) m3 | exact Yu _ _ _ _ _ (by omega) (aG _)) (first | (go_at_call 171;refine (O _ (by first | exact zc.drew r w5 | exact ((zc.refl r w5).alloc _).trans (zc.drew _ _)) (by first | exact X.out.keep rfl rfl | exact (X.out.alloc _).keep rfl rfl)).mono ?_;rintro e' w7 ⟨rfl,m3,aO,am,H7⟩;have aG:=zd m3;first | (have p6:=am (World.alloc_heap_new w5 _);obtain ⟨q0,q1,q2,q3,q4,qf⟩:=ze p6) | skip))
   all_goals (obtain ⟨ab,ae,K⟩:=H7.out)
   all_goals first
    | (have HN:Hid (yh r g w2 [] (t7::M) (.int .i64 11) (.string (za t6.s)) (.int .i64 0) (.int .i64 t.line) (.pointer (some ⟨w5.heap.size,0,none⟩)) (set5 w7 w5.heap.size (.int .i64 11) (.string (za t6.s)) (.int .i64 0) (.slice none 0 0) (.int .i64 t.line))):=yh.set _ _ _ _ ab ae (.inl ⟨rfl,rfl⟩) ⟨_,_,K⟩ (by omega) (by omega) (by omega) (by simp) p6
       clear O H7 ab ae K am;go_wp2_with fail
       go_meet
       exact HN.out)
    | (have HN:Hid (yh r g w2 [] (t7::M) (.int .i64 11) (.string (za t6.s)) (.int .i64 0) (.int .i64 t.line) (.pointer (some ⟨w7.heap.size,0,none⟩)) (w7.alloc (.cells #[.int .i64 11,.string (za t6.s),.int .i64 0,.slice none 0 0,.int .i64 t.line] 90))):=yh.alloc _ _ _ _ ab ae (.inl ⟨rfl,rfl⟩) ⟨_,_,K⟩
       clear O H7 ab ae K am;go_wp2_with fail
       go_meet
       exact HN.out)
  case rest =>
   obtain ⟨P,d0,d1,d2,rfl,hP,D,⟨o3,aM,I⟩,hk,aR⟩:=hcut
   obtain ⟨rfl,rfl,rfl⟩:d0=none∧d1=0∧d2=0:=by
    rcases D with ⟨-,hv⟩ | ⟨_,_,_,_,aD,_⟩
    ·cases hv;exact ⟨rfl,rfl,rfl⟩
    ·exact absurd rfl aD
   have hs:w2.heap.size≤wc.heap.size:=hk.size;have aw:P<wc.heap.size:=(Array.getElem?_eq_some_iff.1 hP).1;have cn:=au.out wc _ _ I (ad.out.trans hk);have aB:Hid (zc r w2 wc):=hk;have az:Hid (wc.heap[P]?=some (.cells #[.int .i64 11,.string (za t6.s),.int .i64 0,.slice none 0 0,.int .i64 t.line] 90 (0,0))):=hP;clear hP D I hk O au;go_wp2_with fail
   refine cn.mono ?_;clear cn;rintro e Z ⟨J,y⟩;have T:Hid (zc r w2 Z):=aB.out.trans J;rcases res with a | ⟨l,us⟩
   ·obtain rfl:=y
    obtain rfl:R=.error a:=by rw [←hres];unfold VQ;rw [if_pos h6]
    exact ⟨rfl,ad.out.trans T.out,rfl⟩
   ·obtain ⟨v,o4,av,rfl,D,I⟩:=y
    obtain rfl:R=.ok (.mk 11 t6.s 0 l t.line,us):=by rw [←hres];unfold VQ;rw [if_pos h6]
    obtain ⟨e0,Y,e2,rfl⟩:∃e0 Y e2,v=.slice e0 Y e2:=by
     rcases D with ⟨-,rfl⟩ | ⟨_,_,_,rfl,_⟩
     ·exact ⟨_,_,_,rfl⟩
     ·exact ⟨_,_,_,rfl⟩
    have pB:=(J.block _ aw (by omega)).trans az.out
    obtain ⟨-,-,-,g3,-,gf⟩:=ze pB;have aP:=gf 3;obtain ⟨w13,A⟩:∃w13,w13=Z.setCell ⟨P,3,none⟩ (.slice e0 Y e2):=⟨_,rfl⟩;have aF:=A.symm;have z:∀k,k≠P→w13.heap[k]?=Z.heap[k]?:=fun k hk=>by rw [A];exact Below.heap_setCell _ _ _ _ (by simpa using hk)
    have pC:w13.heap[P]?=some (.cells #[.int .i64 11,.string (za t6.s),.int .i64 0,.slice e0 Y e2,.int .i64 t.line] 90 (0,0)):=by rw [A];exact Zg _ pB
    have p0:=(z w.heap.size (by omega)).trans ((T.out.block _ (by omega) (by omega)).trans aE.out)
    have aI:=J.size;have ao:Z.heap.size≤w13.heap.size:=by rw [A];simp
    have ak:zc r w w13:=by rw [A];exact (ad.out.trans T.out).setOther (by simp;omega) _
    have L:Zw wc.heap.size w13 l (.slice e0 Y e2):=Zw.kept D ao fun k hB _=>z k (by omega)
    have Q:zk r g o4 av us w13:=I.keep (z r (by omega)) (z g (by omega))
    obtain ⟨f0,f1,f2,f3,f4,-⟩:=ze pC;obtain ⟨q0,q1,q2,q3,q4,qf⟩:=ze p0;obtain ⟨z0,z1,z2,z3,z4⟩:=zj p0 (.int .i64 11) (.string (za t6.s)) (.int .i64 0) (.slice e0 Y e2) (.int .i64 t.line)
    have HP:Hid (zu r g w (.ok (.mk 11 t6.s 0 l t.line,us)) (.returned (.agg #[.int .i64 11,.string (za t6.s),.int .i64 0,.slice e0 Y e2,.int .i64 t.line])) (set5 w13 w.heap.size (.int .i64 11) (.string (za t6.s)) (.int .i64 0) (.slice e0 Y e2) (.int .i64 t.line))) :=
     zu.of_set5 (B:=wc.heap.size) 11 t6.s 0 t.line ak (Nat.le_refl _) hr aA L (by omega) Q
    clear J p0 pB pC D I L Q ak z A gf;go_wp2
    exact bodyPost_ret (v:=.agg #[.int .i64 11,.string (za t6.s),.int .i64 0,.slice e0 Y e2,.int .i64 t.line]) (by simp [results,Tryz.results168,go_sem,z0,z1,z2,z3,z4]) rfl HP.out
 ·obtain rfl:R=.error t6.at0:=by rw [←hres];unfold VQ;rw [if_neg h6]
  have O:∀W:World,zc r w5 W→zk r g (o+5) (cap-1) (t6::ts6) W→Calls Tryz.prog 171 #[.pointer (some ⟨r,0,none⟩)] W fun e w'=>e=ZU t6.at0∧zc r w w':=fun W hK hR=>(cb W hK hR).mono fun e w' h=>by
   obtain ⟨G,y⟩:=h;rw [if_neg h6] at y;exact ⟨y,ad.out.trans (aq.out.trans (hK.trans G))⟩
  clear cb hbr;go_wp2_with fail
  go_region_dies
  all_goals
   go_wp2_with fail
   refine (O _ ?_ ?_).mono ?_
   ·first | exact zc.drew r w5 | exact ((zc.refl r w5).alloc _).trans (zc.drew _ _)
   ·first | exact X.out.keep rfl rfl | exact (X.out.alloc _).keep rfl rfl
   ·rintro e w4 ⟨rfl,G⟩;exact ⟨rfl,G,rfl⟩
end Go.Proofs.YtmbofhpmockmbaaGreatDoor
