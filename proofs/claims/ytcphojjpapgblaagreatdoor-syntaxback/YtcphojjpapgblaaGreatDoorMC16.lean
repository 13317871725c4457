import Derived.Test.YtcphojjpapgblaaGreatDoorMC15
import Derived.Deep.DeepCutAuto
import Derived.Deep.RegionHeld3
namespace Go.Proofs.YtcphojjpapgblaaGreatDoor
open Go.RowKit Go.Shelf
set_option maxHeartbeats 16000000
set_option maxRecDepth 100000
theorem zc.drew (r:Nat) (w:World):zc r w w.drew:=⟨rfl,rfl,rfl,Nat.le_refl _,fun _ _ _=>rfl⟩
def Yw (r g:Nat) (w2:World) (l:List Ex) (us:List Tk) (x0 x1 x2 x4:Value) (v:Value) (wx:World):Prop :=
 ∃(P:Nat) (d0:Option Addr) (d1 d2:Nat),v=.pointer (some ⟨P,0,none⟩)∧wx.heap[P]?=some (.cells #[x0,x1,x2,.slice d0 d1 d2,x4] 45 (0,0))∧zK (fun k=>w2.heap.size≤k∧k≠P) wx l (.slice d0 d1 d2)∧(∃o cap,zf r g o cap us wx)∧zc r w2 wx∧w2.heap.size≤P
theorem zK.low {S:Nat→Prop} {w:World} {l:List Ex} {v:Value} (h:zK S w l v):zK (fun k=>S k∧k<w.heap.size) w l v:=by
 rcases h with h | ⟨g,A,H,O,D,z,I,G,J,N,o,y,L⟩
 ·exact .inl h
 ·exact .inr ⟨g,A,H,O,D,z,⟨I,G⟩,G,J,N,o,y,fun j x c hx hc'=>zX.low (L j x c hx hc')⟩
theorem Yw.alloc {r g:Nat} {w2 W w7:World} {l:List Ex} {t:Tk} {us:List Tk} {d0:Option Addr} {d1 d2:Nat} (x0 x1 x2 x4:Value) (hW:zc r w2 W) (hk:zc r W w7) (hrow:yV W.heap.size w7 l (.slice d0 d1 d2)) (y:∃o h,zf r g o h (t::us) w7) :
  Yw r g w2 l (t::us) x0 x1 x2 x4 (.pointer (some ⟨w7.heap.size,0,none⟩)) (w7.alloc (.cells #[x0,x1,x2,.slice d0 d1 d2,x4] 45)):=by
 obtain ⟨o,h,y⟩:=y;have A:=hW.size;have z:=hk.size;refine ⟨w7.heap.size,d0,d1,d2,rfl,World.alloc_heap_new _ _,?_,⟨o,h,y.alloc _⟩,(hW.trans hk).alloc _,by omega⟩
 exact zK.wide (zK.kept (zK.low hrow) (by simp) fun k hk' _=>Below.heap_alloc _ _ _ hk'.2) fun k hk'=>⟨by omega,by omega⟩
theorem Yw.set {r g P:Nat} {w2 W w7:World} {l:List Ex} {t:Tk} {us:List Tk} {d0:Option Addr} {d1 d2:Nat} (x0 x1 x2 x4:Value) (hW:zc r w2 W) (hk:zc r W w7) (hrow:yV W.heap.size w7 l (.slice d0 d1 d2)) (y:∃o h,zf r g o h (t::us) w7)
  (hr:r<w2.heap.size) (hg:g<w2.heap.size) (hP:w2.heap.size≤P) (hPW:P<W.heap.size) (hb:w7.heap[P]?=some Zz) :
  Yw r g w2 l (t::us) x0 x1 x2 x4 (.pointer (some ⟨P,0,none⟩)) (set5 w7 P x0 x1 x2 (.slice d0 d1 d2) x4):=by
 obtain ⟨o,h,y⟩:=y;refine ⟨P,d0,d1,d2,rfl,Yl hb _ _ _ _ _,?_,⟨o,h,y.keep (zr _ _ _ _ _ _ _ (by omega)) (zr _ _ _ _ _ _ _ (by omega))⟩,ZN (hW.trans hk) hP _ _ _ _ _,hP⟩
 exact zK.wide (zK.kept hrow (w':=set5 w7 P x0 x1 x2 (.slice d0 d1 d2) x4) (by simp) fun k hk' _=>zr _ _ _ _ _ _ _ (by omega)) fun k hk'=>⟨by have:=hW.size;omega,by omega⟩
def Vg (t:Tk) (res:PR (List Ex)):PR Ex :=
 match res with
 | .error a=>.error a
 | .ok (l,us)=>if zm (zu us) [93]=true then .ok (.mk 10 [] 0 l t.line,us.tail) else .error (zu us).at0
theorem qG (r g o cap:Nat) (t:Tk) (ts:List Tk) (w:World) (res:PR (List Ex)) (hi:zm t [91]=true) (hEnd:∀l us,res=.ok (l,us)→zi us) (hex:∀w1 o1 cap1,zf r g o1 cap1 ts w1→zc r w w1→Calls Tryz.prog 194 #[.pointer (some ⟨r,0,none⟩),.func (.func 42) #[.pointer (some ⟨r,0,none⟩)] #[]] w1 (vP r g w1 res)) (h:zf r g o cap (t::ts) w) (hE:zi (t::ts)) (hk1:t.k≠1) (hk2:t.k≠2) (hk3:t.k≠3) (hiT:zm t [116,114,117,101]=false) (hiF:zm t [102,97,108,115,101]=false) (hiN:zm t [110,101,119]=false) :
  Calls Tryz.prog 178 #[.pointer (some ⟨r,0,none⟩)] w (zJ r g w (Vg t res)):=by
 generalize hres:Vg t res=R;have aN:∀(fn:Fn) (first cap:Array Value) (w:World),(Instr.makeFunc fn first cap).run Tryz.prog w=.ok (.func fn first cap) w:=fun _ _ _ _=>rfl
 have hr:=h.lt.1;have aC:=h.lt.2;have h0:=h.alloc Zz;have ch:=Z8 r g o cap t ts _ h0;obtain ⟨w2,U⟩:∃w2,w2=((w.alloc Zz).alloc (ZL t)).alloc (ZL t):=⟨_,rfl⟩;have h2:zf r g o cap (t::ts) w2:=by rw [U];exact (h0.alloc _).alloc _
 have k2:zc r w w2:=by rw [U];exact (((zc.refl r w).alloc _).alloc _).alloc _
 have n0:w2.heap[w.heap.size]?=some Zz:=by
  rw [U,Below.heap_alloc _ _ _ (by simp;omega),Below.heap_alloc _ _ _ (by simp)]
  exact World.alloc_heap_new _ _
 have n2:w2.heap[w.heap.size+1+1]?=some (ZL t):=by
  have hx:=World.alloc_heap_new ((w.alloc Zz).alloc (ZL t)) (ZL t);rw [←U,show ((w.alloc Zz).alloc (ZL t)).heap.size=w.heap.size+1+1 by simp] at hx
  exact hx
 have aG:w.heap.size+1+1<w2.heap.size:=(Array.getElem?_eq_some_iff.1 n2).1;have az:Hid (w2=((w.alloc Zz).alloc (ZL t)).alloc (ZL t)):=U;have ad:Hid (zc r w w2):=k2;have aH:Hid (w2.heap[w.heap.size]?=some Zz):=n0;have aE:Hid (w2.heap[w.heap.size+1+1]?=some (ZL t)):=n2;have aK:¬(t.k:Int)=1:=by omega
 have aJ:¬(t.k:Int)=2:=by omega
 have aI:¬(t.k:Int)=3:=by omega
 clear h h0 U k2 n0 n2
 go_enter Tryz.func178,Tryz.ntmps178
 go_wp2_with fail
 refine ch.mono ?_;clear ch;rintro e w1 ⟨rfl,rfl⟩;simp only [uJ];have ak:Hid (zc r w2 w2):=zc.refl r w2;have aj:Hid (zf r g o cap (t::ts) w2):=h2;clear h2;have J:=Zy r g o cap t ts [116,114,117,101] w2 aj.out (fun hi=>(hE.tail (zk hi)).ne)
 rw [hiT] at J;go_wp2_with fail
 rw [←az.out];refine J.mono ?_;clear J;rintro e w3 ⟨rfl,A,y⟩;have ae:Hid (zc r w2 w3):=ak.out.trans A;have ai:Hid (zf r g o cap (t::ts) w3):=show zf _ _ _ _ _ _ by simpa using y
 clear A y ak aj;clear az;have J:=Zy r g o cap t ts [102,97,108,115,101] w3 ai.out (fun hi=>(hE.tail (zk hi)).ne)
 rw [hiF] at J;go_wp2_with fail
 refine J.mono ?_;clear J;rintro e w4 ⟨rfl,A,y⟩;have ag:Hid (zc r w2 w4):=ae.out.trans A;have al:Hid (zf r g o cap (t::ts) w4):=show zf _ _ _ _ _ _ by simpa using y
 clear A y ae ai;have J:=Zy r g o cap t ts [110,101,119] w4 al.out (fun hi=>(hE.tail (zk hi)).ne)
 rw [hiN] at J;go_wp2_with fail
 refine J.mono ?_;clear J;rintro e w5 ⟨rfl,A,y⟩;have ah:Hid (zc r w2 w5):=ag.out.trans A;have am:Hid (zf r g o cap (t::ts) w5):=show zf _ _ _ _ _ _ by simpa using y
 clear A y ag al;have J:=Zy r g o cap t ts [91] w5 am.out (fun hi=>(hE.tail (zk hi)).ne)
 rw [hi] at J;go_wp2_with fail
 refine J.mono ?_;clear J;rintro e w6 ⟨rfl,A,y⟩;have Z:zc r w2 w6:=ah.out.trans A;have ar:zf r g (o+5) (cap-1) ts w6:=by simpa using y
 have aF:=hE.tail (zk hi);obtain ⟨t6,Y,rfl⟩:=aF.cons;have p2:=(Z.block _ aG (by omega)).trans aE.out
 obtain ⟨-,-,-,c3,-,-⟩:=zU p2;have aL:=zl c3;have aM:=Z.size;have an:Hid (zc r w2 w6):=Z;have aQ:Hid (w6.heap[w.heap.size+1+1]?=some (ZL t)):=p2
 have cb:∀W:World,zc r w6 W→zf r g (o+5) (cap-1) (t6::Y) W→Calls Tryz.prog 194 #[.pointer (some ⟨r,0,none⟩),.func (.func 42) #[.pointer (some ⟨r,0,none⟩)] #[]] W fun e w'=>zc r W w'∧vP r g W res e w':=fun W hK hR =>
  (hex W _ _ hR (ad.out.trans (an.out.trans hK))).mono fun e w' h=>⟨h.1,h⟩
 have aa:Hid (zf r g (o+5) (cap-1) (t6::Y) w6):=ar;clear hex A y Z ar p2 ah am;rcases res with a | ⟨l,us⟩
 ·obtain rfl:R=.error a:=by rw [←hres];unfold Vg;rfl
  have Q:∀W:World,zc r w6 W→zf r g (o+5) (cap-1) (t6::Y) W→Calls Tryz.prog 194 #[.pointer (some ⟨r,0,none⟩),.func (.func 42) #[.pointer (some ⟨r,0,none⟩)] #[]] W fun e w'=>e=ZG a∧zc r w w':=fun W hK hR=>(cb W hK hR).mono fun e w' h=>⟨h.2.2,ad.out.trans (an.out.trans (hK.trans h.1))⟩
  clear cb;go_wp2_with fail
  go_region_dies
  all_goals
   go_wp2_with fail
   refine (Q _ ?_ ?_).mono ?_
   ·first | exact zc.drew r w6 | exact ((zc.refl r w6).alloc _).trans (zc.drew _ _)
   ·first | exact aa.out.keep rfl rfl | exact (aa.out.alloc _).keep rfl rfl
   ·rintro e w4 ⟨rfl,T⟩;exact ⟨rfl,T,rfl⟩
 ·have ay:=hEnd l us rfl
  obtain ⟨t3,L,rfl⟩:=ay.cons
  have Q:∀W:World,zc r w6 W→zf r g (o+5) (cap-1) (t6::Y) W→Calls Tryz.prog 194 #[.pointer (some ⟨r,0,none⟩),.func (.func 42) #[.pointer (some ⟨r,0,none⟩)] #[]] W fun e w'=>∃(G:Option Addr) (H d2:Nat),e=.returned (.slice G H d2)∧w'.cell? ⟨w.heap.size+1+1,3,none⟩=some (.int .i64 t.line)∧W.heap.size≤w'.heap.size∧(W.heap[w6.heap.size]?=some Zz→w'.heap[w6.heap.size]?=some Zz) ∧
    Hid (zc r w2 W∧zc r W w'∧yV W.heap.size w' l (.slice G H d2)∧∃o cap,zf r g o cap (t3::L) w'):=fun W hK hR=>(cb W hK hR).mono fun e w' h=>by
   obtain ⟨T,-,v,o4,au,rfl,I,ab⟩:=h
   obtain ⟨G,H,d2,rfl⟩:∃G H d2,v=.slice G H d2:=by
    rcases I with ⟨-,rfl⟩ | ⟨_,_,_,rfl,_⟩
    ·exact ⟨_,_,_,rfl⟩
    ·exact ⟨_,_,_,rfl⟩
   refine ⟨G,H,d2,rfl,T.cell (p:=⟨w.heap.size+1+1,3,none⟩) (by simp;omega) (hK.cell (p:=⟨w.heap.size+1+1,3,none⟩) (by simp;omega) c3),T.size,fun hz=>?_,an.out.trans hK,T,I,o4,au,ab⟩
   exact (T.block _ (Array.getElem?_eq_some_iff.1 hz).1 (by omega)).trans hz
  clear cb;go_wp2_with fail
  go_cut [5] (fun v wx=>Yw r g w2 l (t3::L) (.int .i64 10) (.string ⟨#[]⟩) (.int .i64 0) (.int .i64 t.line) v wx)
  case first =>
   go_region_held3 (fun W=>W.cell? ⟨w.heap.size+1+1,3,none⟩=some (.int .i64 t.line)) (first | go_keep | exact Xf _ _ _ _ _ (by omega) m3 | exact Xf _ _ _ _ _ (by omega) (aD _)) (first | (go_at_call 194;refine (Q _ (by first | exact zc.drew r w6 | exact ((zc.refl r w6).alloc _).trans (zc.drew _ _)) (by first | exact aa.out.keep rfl rfl | exact (aa.out.alloc _).keep rfl rfl)).mono ?_;rintro e' w7 ⟨G,H,d2,rfl,m3,aO,ap,H7⟩;have aD:=zl m3;first | (have p6:=ap (World.alloc_heap_new w6 _);obtain ⟨q0,q1,q2,q3,q4,qf⟩:=zU p6) | skip))
   all_goals (obtain ⟨V,X,D,O⟩:=H7.out)
   all_goals first
    | (have HN:Hid (Yw r g w2 l (t3::L) (.int .i64 10) (.string ⟨#[]⟩) (.int .i64 0) (.int .i64 t.line) (.pointer (some ⟨w6.heap.size,0,none⟩)) (set5 w7 w6.heap.size (.int .i64 10) (.string ⟨#[]⟩) (.int .i64 0) (.slice G H d2) (.int .i64 t.line))):=Yw.set _ _ _ _ V X D O (by omega) (by omega) (by omega) (by simp) p6
       clear Q H7 V X D O ap;go_wp2_with fail
       go_meet
       exact HN.out)
    | (have HN:Hid (Yw r g w2 l (t3::L) (.int .i64 10) (.string ⟨#[]⟩) (.int .i64 0) (.int .i64 t.line) (.pointer (some ⟨w7.heap.size,0,none⟩)) (w7.alloc (.cells #[.int .i64 10,.string ⟨#[]⟩,.int .i64 0,.slice G H d2,.int .i64 t.line] 45))):=Yw.alloc _ _ _ _ V X D O
       clear Q H7 V X D O ap;go_wp2_with fail
       go_meet
       exact HN.out)
  case rest =>
   obtain ⟨P,G,H,d2,rfl,hP,I,⟨o3,ax,ab⟩,hk,aP⟩:=hcut;have hs:w2.heap.size≤wc.heap.size:=hk.size;have aA:P<wc.heap.size:=(Array.getElem?_eq_some_iff.1 hP).1;have cn:=yI r g o3 ax t3 L [93] wc ab (fun hi=>(ay.tail (zk hi)).ne)
   have av:Hid (zc r w2 wc):=hk;have aB:Hid (wc.heap[P]?=some (.cells #[.int .i64 10,.string ⟨#[]⟩,.int .i64 0,.slice G H d2,.int .i64 t.line] 45 (0,0))):=hP;have aw:Hid (zK (fun k=>w2.heap.size≤k∧k≠P) wc l (.slice G H d2)):=I
   clear hP I ab hk Q
   by_cases hm:zm t3 [93]=true
   ·simp only [if_pos hm] at cn
    obtain rfl:R=.ok (.mk 10 [] 0 l t.line,L):=by rw [←hres];unfold Vg;simp only [zC,hm,if_true,List.tail_cons]
    go_wp2_with fail
    refine cn.mono ?_;clear cn;rintro e aq ⟨z,rfl,af⟩;have ao:=av.out.trans z;have p0:=(ao.block _ (by omega) (by omega)).trans aH.out
    have pB:=(z.block _ aA (by omega)).trans aB.out
    obtain ⟨e0,e1,e2,e3,e4,-⟩:=zU pB;obtain ⟨q0,q1,q2,q3,q4,qf⟩:=zU p0;obtain ⟨z0,z1,z2,z3,z4⟩:=zY p0 (.int .i64 10) (.string ⟨#[]⟩) (.int .i64 0) (.slice G H d2) (.int .i64 t.line);have N:yV w2.heap.size aq l (.slice G H d2):=zK.wide (zK.kept aw.out z.size fun k hk' hlt=>z.block k hlt (by omega)) fun k hk'=>hk'.1
    have HP:Hid (zJ r g w (.ok (.mk 10 [] 0 l t.line,L)) (.returned (.agg #[.int .i64 10,.string ⟨#[]⟩,.int .i64 0,.slice G H d2,.int .i64 t.line])) (set5 aq w.heap.size (.int .i64 10) (.string ⟨#[]⟩) (.int .i64 0) (.slice G H d2) (.int .i64 t.line))) :=
     zJ.of_set5 (B:=w2.heap.size) 10 [] 0 t.line (ad.out.trans ao) (Nat.le_refl _) hr aC N (by omega) af
    clear ao z af p0 pB N;go_wp2
    exact bodyPost_ret (v:=.agg #[.int .i64 10,.string ⟨#[]⟩,.int .i64 0,.slice G H d2,.int .i64 t.line]) (by simp [results,Tryz.results178,go_sem,z0,z1,z2,z3,z4]) rfl HP.out
   ·simp only [if_neg hm] at cn
    obtain rfl:R=.error t3.at0:=by rw [←hres];unfold Vg;simp only [zC,if_neg hm]
    go_wp2_with fail
    refine cn.mono ?_;clear cn;rintro e aq ⟨z,rfl⟩;exact ⟨rfl,ad.out.trans (av.out.trans z),rfl⟩
def Q2 (t t6:Tk) (res:PR (List Ex)):PR Ex :=
 if t6.k=1 then
  match res with
  | .error a=>.error a
  | .ok (l,us)=>.ok (.mk 11 t6.s 0 l t.line,us)
 else .error t6.at0
theorem uL (r g o cap:Nat) (t t6:Tk) (ts6:List Tk) (w:World) (res:PR (List Ex)) (hi:zm t [110,101,119]=true) (hbr:t6.k=1→∀Z o1 cap1,zf r g o1 cap1 ts6 Z→zc r w Z→Calls Tryz.prog 193 #[.pointer (some ⟨r,0,none⟩),.func (.func 42) #[.pointer (some ⟨r,0,none⟩)] #[]] Z (vP r g Z res)) (h:zf r g o cap (t::t6::ts6) w) (hE:zi (t::t6::ts6)) (hk1:t.k≠1) (hk2:t.k≠2) (hk3:t.k≠3) (hiT:zm t [116,114,117,101]=false) (hiF:zm t [102,97,108,115,101]=false) :
  Calls Tryz.prog 178 #[.pointer (some ⟨r,0,none⟩)] w (zJ r g w (Q2 t t6 res)):=by
 generalize hres:Q2 t t6 res=R;have aR:∀(fn:Fn) (first cap:Array Value) (w:World),(Instr.makeFunc fn first cap).run Tryz.prog w=.ok (.func fn first cap) w:=fun _ _ _ _=>rfl
 obtain ⟨ts,aw⟩:∃ts,ts=t6::ts6:=⟨_,rfl⟩;rw [←aw] at h hE;have hr:=h.lt.1;have aB:=h.lt.2;have h0:=h.alloc Zz;have ch:=Z8 r g o cap t ts _ h0;obtain ⟨w2,T⟩:∃w2,w2=((w.alloc Zz).alloc (ZL t)).alloc (ZL t):=⟨_,rfl⟩;have h2:zf r g o cap (t::ts) w2:=by rw [T];exact (h0.alloc _).alloc _
 have k2:zc r w w2:=by rw [T];exact (((zc.refl r w).alloc _).alloc _).alloc _
 have n0:w2.heap[w.heap.size]?=some Zz:=by
  rw [T,Below.heap_alloc _ _ _ (by simp;omega),Below.heap_alloc _ _ _ (by simp)]
  exact World.alloc_heap_new _ _
 have n2:w2.heap[w.heap.size+1+1]?=some (ZL t):=by
  have hx:=World.alloc_heap_new ((w.alloc Zz).alloc (ZL t)) (ZL t);rw [←T,show ((w.alloc Zz).alloc (ZL t)).heap.size=w.heap.size+1+1 by simp] at hx
  exact hx
 have aI:w.heap.size+1+1<w2.heap.size:=(Array.getElem?_eq_some_iff.1 n2).1;have av:Hid (w2=((w.alloc Zz).alloc (ZL t)).alloc (ZL t)):=T;have ag:Hid (zc r w w2):=k2;have aJ:Hid (w2.heap[w.heap.size]?=some Zz):=n0;have aE:Hid (w2.heap[w.heap.size+1+1]?=some (ZL t)):=n2;have aO:¬(t.k:Int)=1:=by omega
 have aM:¬(t.k:Int)=2:=by omega
 have aL:¬(t.k:Int)=3:=by omega
 clear h h0 T k2 n0 n2
 go_enter Tryz.func178,Tryz.ntmps178
 go_wp2_with fail
 refine ch.mono ?_;clear ch;rintro e Z ⟨rfl,rfl⟩;simp only [uJ];have al:Hid (zc r w2 w2):=zc.refl r w2;have ak:Hid (zf r g o cap (t::ts) w2):=h2;clear h2;have V:=Zy r g o cap t ts [116,114,117,101] w2 ak.out (fun hi=>(hE.tail (zk hi)).ne)
 rw [hiT] at V;go_wp2_with fail
 rw [←av.out];refine V.mono ?_;clear V;rintro e w3 ⟨rfl,I,H⟩;have ah:Hid (zc r w2 w3):=al.out.trans I;have aj:Hid (zf r g o cap (t::ts) w3):=show zf _ _ _ _ _ _ by simpa using H
 clear I H al ak;clear av;have V:=Zy r g o cap t ts [102,97,108,115,101] w3 aj.out (fun hi=>(hE.tail (zk hi)).ne)
 rw [hiF] at V;go_wp2_with fail
 refine V.mono ?_;clear V;rintro e w4 ⟨rfl,I,H⟩;have ai:Hid (zc r w2 w4):=ah.out.trans I;have am:Hid (zf r g o cap (t::ts) w4):=show zf _ _ _ _ _ _ by simpa using H
 clear I H ah aj;have V:=Zy r g o cap t ts [110,101,119] w4 am.out (fun hi=>(hE.tail (zk hi)).ne)
 rw [hi] at V;go_wp2_with fail
 refine V.mono ?_;clear V;rintro e w5 ⟨rfl,I,H⟩;have af:zc r w2 w5:=ai.out.trans I;have ax:zf r g (o+5) (cap-1) ts w5:=by simpa using H
 have az:=hE.tail (zk hi);subst aw;have p2:=(af.block _ aI (by omega)).trans aE.out
 obtain ⟨-,-,-,c3,-,-⟩:=zU p2;have aQ:=zl c3;have aU:=af.size;have au:Hid (zc r w2 w5):=af
 have cb:∀W:World,zc r w5 W→zf r g (o+5) (cap-1) (t6::ts6) W→Calls Tryz.prog 92 #[.pointer (some ⟨r,0,none⟩)] W fun e w'=>zc r W w'∧if t6.k=1 then e=.returned (.string (zb t6.s))∧zf r g (o+5+5) (cap-1-1) ts6 w' else e=ZG t6.at0:=fun W hK hR =>
  xu r g _ _ t6 ts6 W hR (fun hk=>(az.tail (by omega)).ne)
 have ad:Hid (zf r g (o+5) (cap-1) (t6::ts6) w5):=ax;clear I H af ax p2 ai am
 by_cases h6:t6.k=1
 ·have aG:=az.tail (by omega:t6.k≠0)
  obtain ⟨t7,U,rfl⟩:=aG.cons
  have Q:∀W:World,zc r w5 W→zf r g (o+5) (cap-1) (t6::t7::U) W→Calls Tryz.prog 92 #[.pointer (some ⟨r,0,none⟩)] W fun e w'=>e=.returned (.string (zb t6.s))∧w'.cell? ⟨w.heap.size+1+1,3,none⟩=some (.int .i64 t.line)∧W.heap.size≤w'.heap.size∧(W.heap[w5.heap.size]?=some Zz→w'.heap[w5.heap.size]?=some Zz) ∧
    Hid (zc r w2 W∧zc r W w'∧zf r g (o+5+5) (cap-1-1) (t7::U) w'):=fun W hK hR=>(cb W hK hR).mono fun e w' h=>by
   obtain ⟨G,y⟩:=h;rw [if_pos h6] at y;obtain ⟨rfl,J⟩:=y;refine ⟨rfl,G.cell (p:=⟨w.heap.size+1+1,3,none⟩) (by simp;omega) (hK.cell (p:=⟨w.heap.size+1+1,3,none⟩) (by simp;omega) c3),G.size,fun hz=>?_,au.out.trans hK,G,J⟩
   exact (G.block _ (Array.getElem?_eq_some_iff.1 hz).1 (by omega)).trans hz
  have aq:Hid (∀Z o1 cap1,zf r g o1 cap1 (t7::U) Z→zc r w Z→Calls Tryz.prog 193 #[.pointer (some ⟨r,0,none⟩),.func (.func 42) #[.pointer (some ⟨r,0,none⟩)] #[]] Z (vP r g Z res)):=hbr h6;clear cb hbr;go_wp2_with fail
  go_cut [4] (fun v wx=>Yw r g w2 [] (t7::U) (.int .i64 11) (.string (zb t6.s)) (.int .i64 0) (.int .i64 t.line) v wx)
  case first =>
   go_region_held3 (fun W=>W.cell? ⟨w.heap.size+1+1,3,none⟩=some (.int .i64 t.line)) (first | go_keep | exact Xf _ _ _ _ _ (by omega) m3 | exact Xf _ _ _ _ _ (by omega) (aD _)) (first | (go_at_call 92;refine (Q _ (by first | exact zc.drew r w5 | exact ((zc.refl r w5).alloc _).trans (zc.drew _ _)) (by first | exact ad.out.keep rfl rfl | exact (ad.out.alloc _).keep rfl rfl)).mono ?_;rintro e' w7 ⟨rfl,m3,aS,ao,H7⟩;have aD:=zl m3;first | (have p6:=ao (World.alloc_heap_new w5 _);obtain ⟨q0,q1,q2,q3,q4,qf⟩:=zU p6) | skip))
   all_goals (obtain ⟨aa,ab,N⟩:=H7.out)
   all_goals first
    | (have HN:Hid (Yw r g w2 [] (t7::U) (.int .i64 11) (.string (zb t6.s)) (.int .i64 0) (.int .i64 t.line) (.pointer (some ⟨w5.heap.size,0,none⟩)) (set5 w7 w5.heap.size (.int .i64 11) (.string (zb t6.s)) (.int .i64 0) (.slice none 0 0) (.int .i64 t.line))):=Yw.set _ _ _ _ aa ab (.inl ⟨rfl,rfl⟩) ⟨_,_,N⟩ (by omega) (by omega) (by omega) (by simp) p6
       clear Q H7 aa ab N ao;go_wp2_with fail
       go_meet
       exact HN.out)
    | (have HN:Hid (Yw r g w2 [] (t7::U) (.int .i64 11) (.string (zb t6.s)) (.int .i64 0) (.int .i64 t.line) (.pointer (some ⟨w7.heap.size,0,none⟩)) (w7.alloc (.cells #[.int .i64 11,.string (zb t6.s),.int .i64 0,.slice none 0 0,.int .i64 t.line] 45))):=Yw.alloc _ _ _ _ aa ab (.inl ⟨rfl,rfl⟩) ⟨_,_,N⟩
       clear Q H7 aa ab N ao;go_wp2_with fail
       go_meet
       exact HN.out)
  case rest =>
   obtain ⟨P,d0,d1,d2,rfl,hP,A,⟨o3,aK,J⟩,hk,aT⟩:=hcut
   obtain ⟨rfl,rfl,rfl⟩:d0=none∧d1=0∧d2=0:=by
    rcases A with ⟨-,hv⟩ | ⟨_,_,_,_,aH,_⟩
    ·cases hv;exact ⟨rfl,rfl,rfl⟩
    ·exact absurd rfl aH
   have hs:w2.heap.size≤wc.heap.size:=hk.size;have ay:P<wc.heap.size:=(Array.getElem?_eq_some_iff.1 hP).1;have cn:=aq.out wc _ _ J (ag.out.trans hk);have aC:Hid (zc r w2 wc):=hk;have aA:Hid (wc.heap[P]?=some (.cells #[.int .i64 11,.string (zb t6.s),.int .i64 0,.slice none 0 0,.int .i64 t.line] 45 (0,0))):=hP;clear hP A J hk Q aq;go_wp2_with fail
   refine cn.mono ?_;clear cn;rintro e ae ⟨L,y⟩;have Y:Hid (zc r w2 ae):=aC.out.trans L;rcases res with a | ⟨l,us⟩
   ·obtain rfl:=y
    obtain rfl:R=.error a:=by rw [←hres];unfold Q2;rw [if_pos h6]
    exact ⟨rfl,ag.out.trans Y.out,rfl⟩
   ·obtain ⟨v,o4,ap,rfl,A,J⟩:=y
    obtain rfl:R=.ok (.mk 11 t6.s 0 l t.line,us):=by rw [←hres];unfold Q2;rw [if_pos h6]
    obtain ⟨e0,e1,e2,rfl⟩:∃e0 e1 e2,v=.slice e0 e1 e2:=by
     rcases A with ⟨-,rfl⟩ | ⟨_,_,_,rfl,_⟩
     ·exact ⟨_,_,_,rfl⟩
     ·exact ⟨_,_,_,rfl⟩
    have pB:=(L.block _ ay (by omega)).trans aA.out
    obtain ⟨-,-,-,g3,-,gf⟩:=zU pB;have aP:=gf 3;obtain ⟨w13,D⟩:∃w13,w13=ae.setCell ⟨P,3,none⟩ (.slice e0 e1 e2):=⟨_,rfl⟩;have aF:=D.symm;have z:∀k,k≠P→w13.heap[k]?=ae.heap[k]?:=fun k hk=>by rw [D];exact Below.heap_setCell _ _ _ _ (by simpa using hk)
    have pC:w13.heap[P]?=some (.cells #[.int .i64 11,.string (zb t6.s),.int .i64 0,.slice e0 e1 e2,.int .i64 t.line] 45 (0,0)):=by rw [D];exact zo _ pB
    have p0:=(z w.heap.size (by omega)).trans ((Y.out.block _ (by omega) (by omega)).trans aJ.out)
    have aN:=L.size;have ar:ae.heap.size≤w13.heap.size:=by rw [D];simp
    have an:zc r w w13:=by rw [D];exact (ag.out.trans Y.out).setOther (by simp;omega) _
    have O:yV wc.heap.size w13 l (.slice e0 e1 e2):=yV.kept A ar fun k hB _=>z k (by omega)
    have X:zf r g o4 ap us w13:=J.keep (z r (by omega)) (z g (by omega))
    obtain ⟨f0,f1,f2,f3,f4,-⟩:=zU pC;obtain ⟨q0,q1,q2,q3,q4,qf⟩:=zU p0;obtain ⟨z0,z1,z2,z3,z4⟩:=zY p0 (.int .i64 11) (.string (zb t6.s)) (.int .i64 0) (.slice e0 e1 e2) (.int .i64 t.line)
    have HP:Hid (zJ r g w (.ok (.mk 11 t6.s 0 l t.line,us)) (.returned (.agg #[.int .i64 11,.string (zb t6.s),.int .i64 0,.slice e0 e1 e2,.int .i64 t.line])) (set5 w13 w.heap.size (.int .i64 11) (.string (zb t6.s)) (.int .i64 0) (.slice e0 e1 e2) (.int .i64 t.line))) :=
     zJ.of_set5 (B:=wc.heap.size) 11 t6.s 0 t.line an (Nat.le_refl _) hr aB O (by omega) X
    clear L p0 pB pC A J O X an z D gf;go_wp2
    exact bodyPost_ret (v:=.agg #[.int .i64 11,.string (zb t6.s),.int .i64 0,.slice e0 e1 e2,.int .i64 t.line]) (by simp [results,Tryz.results178,go_sem,z0,z1,z2,z3,z4]) rfl HP.out
 ·obtain rfl:R=.error t6.at0:=by rw [←hres];unfold Q2;rw [if_neg h6]
  have Q:∀W:World,zc r w5 W→zf r g (o+5) (cap-1) (t6::ts6) W→Calls Tryz.prog 92 #[.pointer (some ⟨r,0,none⟩)] W fun e w'=>e=ZG t6.at0∧zc r w w':=fun W hK hR=>(cb W hK hR).mono fun e w' h=>by
   obtain ⟨G,y⟩:=h;rw [if_neg h6] at y;exact ⟨y,ag.out.trans (au.out.trans (hK.trans G))⟩
  clear cb hbr;go_wp2_with fail
  go_region_dies
  all_goals
   go_wp2_with fail
   refine (Q _ ?_ ?_).mono ?_
   ·first | exact zc.drew r w5 | exact ((zc.refl r w5).alloc _).trans (zc.drew _ _)
   ·first | exact ad.out.keep rfl rfl | exact (ad.out.alloc _).keep rfl rfl
   ·rintro e w4 ⟨rfl,G⟩;exact ⟨rfl,G,rfl⟩
end Go.Proofs.YtcphojjpapgblaaGreatDoor
