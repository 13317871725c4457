import Derived.Test.YtpejpbbdgblbeaaGreatDoorMC16
import Derived.Deep.DeepCutAuto
import Derived.Deep.RegionHeld3
namespace Go.Proofs.YtpejpbbdgblbeaaGreatDoor
open Go.RowKit Go.Shelf
set_option maxHeartbeats 16000000
set_option maxRecDepth 100000
theorem zd.drew (r:Nat) (w:World):zd r w w.drew:=⟨rfl,rfl,rfl,Nat.le_refl _,fun _ _ _=>rfl⟩
def Ym (r g:Nat) (w2:World) (l:List Ex) (us:List Tk) (x0 x1 x2 x4:Value) (v:Value) (wx:World):Prop :=
 ∃(P:Nat) (d0:Option Addr) (d1 d2:Nat),v=.pointer (some ⟨P,0,none⟩)∧wx.heap[P]?=some (.cells #[x0,x1,x2,.slice d0 d1 d2,x4] 45 (0,0))∧zI (fun k=>w2.heap.size≤k∧k≠P) wx l (.slice d0 d1 d2)∧(∃o cap,zf r g o cap us wx)∧zd r w2 wx∧w2.heap.size≤P
theorem zI.low {S:Nat→Prop} {w:World} {l:List Ex} {v:Value} (h:zI S w l v):zI (fun k=>S k∧k<w.heap.size) w l v:=by
 rcases h with h | ⟨g,A,K,J,z,y,H,D,G,I,o,s,L⟩
 ·exact .inl h
 ·exact .inr ⟨g,A,K,J,z,y,⟨H,D⟩,D,G,I,o,s,fun j x c hx hc'=>zV.low (L j x c hx hc')⟩
theorem Ym.alloc {r g:Nat} {w2 W w7:World} {l:List Ex} {t:Tk} {us:List Tk} {d0:Option Addr} {d1 d2:Nat} (x0 x1 x2 x4:Value) (hW:zd r w2 W) (hk:zd r W w7) (hrow:yN W.heap.size w7 l (.slice d0 d1 d2)) (h:∃o s,zf r g o s (t::us) w7) :
  Ym r g w2 l (t::us) x0 x1 x2 x4 (.pointer (some ⟨w7.heap.size,0,none⟩)) (w7.alloc (.cells #[x0,x1,x2,.slice d0 d1 d2,x4] 45)):=by
 obtain ⟨o,s,h⟩:=h;have y:=hW.size;have z:=hk.size;refine ⟨w7.heap.size,d0,d1,d2,rfl,World.alloc_heap_new _ _,?_,⟨o,s,h.alloc _⟩,(hW.trans hk).alloc _,by omega⟩
 exact zI.wide (zI.kept (zI.low hrow) (by simp) fun k hk' _=>Below.heap_alloc _ _ _ hk'.2) fun k hk'=>⟨by omega,by omega⟩
theorem Ym.set {r g P:Nat} {w2 W w7:World} {l:List Ex} {t:Tk} {us:List Tk} {d0:Option Addr} {d1 d2:Nat} (x0 x1 x2 x4:Value) (hW:zd r w2 W) (hk:zd r W w7) (hrow:yN W.heap.size w7 l (.slice d0 d1 d2)) (h:∃o s,zf r g o s (t::us) w7)
  (hr:r<w2.heap.size) (hg:g<w2.heap.size) (hP:w2.heap.size≤P) (hPW:P<W.heap.size) (hb:w7.heap[P]?=some Zu) :
  Ym r g w2 l (t::us) x0 x1 x2 x4 (.pointer (some ⟨P,0,none⟩)) (set5 w7 P x0 x1 x2 (.slice d0 d1 d2) x4):=by
 obtain ⟨o,s,h⟩:=h;refine ⟨P,d0,d1,d2,rfl,y7 hb _ _ _ _ _,?_,⟨o,s,h.keep (zr _ _ _ _ _ _ _ (by omega)) (zr _ _ _ _ _ _ _ (by omega))⟩,ZO (hW.trans hk) hP _ _ _ _ _,hP⟩
 exact zI.wide (zI.kept hrow (w':=set5 w7 P x0 x1 x2 (.slice d0 d1 d2) x4) (by simp) fun k hk' _=>zr _ _ _ _ _ _ _ (by omega)) fun k hk'=>⟨by have:=hW.size;omega,by omega⟩
def vF (t:Tk) (res:PR (List Ex)):PR Ex :=
 match res with
 | .error a=>.error a
 | .ok (l,us)=>if zo (zw us) [93]=true then .ok (.mk 10 [] 0 l t.line,us.tail) else .error (zw us).at0
theorem Uy (r g o cap:Nat) (t:Tk) (ts:List Tk) (w:World) (res:PR (List Ex)) (hi:zo t [91]=true) (hEnd:∀l us,res=.ok (l,us)→zg us) (hex:∀w1 o1 cap1,zf r g o1 cap1 ts w1→zd r w w1→Calls Tryz.prog 196 #[.pointer (some ⟨r,0,none⟩),.func (.func 44) #[.pointer (some ⟨r,0,none⟩)] #[]] w1 (X5 r g w1 res)) (h:zf r g o cap (t::ts) w) (hE:zg (t::ts)) (hk1:t.k≠1) (hk2:t.k≠2) (hk3:t.k≠3) (hiT:zo t [116,114,117,101]=false) (hiF:zo t [102,97,108,115,101]=false) (hiN:zo t [110,101,119]=false) :
  Calls Tryz.prog 180 #[.pointer (some ⟨r,0,none⟩)] w (zH r g w (vF t res)):=by
 generalize hres:vF t res=R;have aO:∀(fn:Fn) (first cap:Array Value) (w:World),(Instr.makeFunc fn first cap).run Tryz.prog w=.ok (.func fn first cap) w:=fun _ _ _ _=>rfl
 have hr:=h.lt.1;have aG:=h.lt.2;have h0:=h.alloc Zu;have ch:=Z3 r g o cap t ts _ h0;obtain ⟨w2,Q⟩:∃w2,w2=((w.alloc Zu).alloc (ZK t)).alloc (ZK t):=⟨_,rfl⟩;have h2:zf r g o cap (t::ts) w2:=by rw [Q];exact (h0.alloc _).alloc _
 have k2:zd r w w2:=by rw [Q];exact (((zd.refl r w).alloc _).alloc _).alloc _
 have n0:w2.heap[w.heap.size]?=some Zu:=by
  rw [Q,Below.heap_alloc _ _ _ (by simp;omega),Below.heap_alloc _ _ _ (by simp)]
  exact World.alloc_heap_new _ _
 have n2:w2.heap[w.heap.size+1+1]?=some (ZK t):=by
  have hx:=World.alloc_heap_new ((w.alloc Zu).alloc (ZK t)) (ZK t);rw [←Q,show ((w.alloc Zu).alloc (ZK t)).heap.size=w.heap.size+1+1 by simp] at hx
  exact hx
 have aC:w.heap.size+1+1<w2.heap.size:=(Array.getElem?_eq_some_iff.1 n2).1;have av:Hid (w2=((w.alloc Zu).alloc (ZK t)).alloc (ZK t)):=Q;have ab:Hid (zd r w w2):=k2;have aB:Hid (w2.heap[w.heap.size]?=some Zu):=n0;have aF:Hid (w2.heap[w.heap.size+1+1]?=some (ZK t)):=n2;have aJ:¬(t.k:Int)=1:=by omega
 have aI:¬(t.k:Int)=2:=by omega
 have aH:¬(t.k:Int)=3:=by omega
 clear h h0 Q k2 n0 n2
 go_enter Tryz.func180,Tryz.ntmps180
 go_wp2_with fail
 refine ch.mono ?_;clear ch;rintro e w1 ⟨rfl,rfl⟩;simp only [VP];have ad:Hid (zd r w2 w2):=zd.refl r w2;have ag:Hid (zf r g o cap (t::ts) w2):=h2;clear h2;have I:=Zt r g o cap t ts [116,114,117,101] w2 ag.out (fun hi=>(hE.tail (zi hi)).ne)
 rw [hiT] at I;go_wp2_with fail
 rw [←av.out];refine I.mono ?_;clear I;rintro e w3 ⟨rfl,z,s⟩;have ak:Hid (zd r w2 w3):=ad.out.trans z;have ae:Hid (zf r g o cap (t::ts) w3):=show zf _ _ _ _ _ _ by simpa using s
 clear z s ad ag;clear av;have I:=Zt r g o cap t ts [102,97,108,115,101] w3 ae.out (fun hi=>(hE.tail (zi hi)).ne)
 rw [hiF] at I;go_wp2_with fail
 refine I.mono ?_;clear I;rintro e w4 ⟨rfl,z,s⟩;have af:Hid (zd r w2 w4):=ak.out.trans z;have ah:Hid (zf r g o cap (t::ts) w4):=show zf _ _ _ _ _ _ by simpa using s
 clear z s ak ae;have I:=Zt r g o cap t ts [110,101,119] w4 ah.out (fun hi=>(hE.tail (zi hi)).ne)
 rw [hiN] at I;go_wp2_with fail
 refine I.mono ?_;clear I;rintro e w5 ⟨rfl,z,s⟩;have aj:Hid (zd r w2 w5):=af.out.trans z;have al:Hid (zf r g o cap (t::ts) w5):=show zf _ _ _ _ _ _ by simpa using s
 clear z s af ah;have I:=Zt r g o cap t ts [91] w5 al.out (fun hi=>(hE.tail (zi hi)).ne)
 rw [hi] at I;go_wp2_with fail
 refine I.mono ?_;clear I;rintro e w6 ⟨rfl,z,s⟩;have T:zd r w2 w6:=aj.out.trans z;have aq:zf r g (o+5) (cap-1) ts w6:=by simpa using s
 have aE:=hE.tail (zi hi);obtain ⟨t6,Y,rfl⟩:=aE.cons;have p2:=(T.block _ aC (by omega)).trans aF.out
 obtain ⟨-,-,-,c3,-,-⟩:=zR p2;have aL:=zj c3;have aP:=T.size;have am:Hid (zd r w2 w6):=T;have aM:Hid (w6.heap[w.heap.size+1+1]?=some (ZK t)):=p2
 have cb:∀W:World,zd r w6 W→zf r g (o+5) (cap-1) (t6::Y) W→Calls Tryz.prog 196 #[.pointer (some ⟨r,0,none⟩),.func (.func 44) #[.pointer (some ⟨r,0,none⟩)] #[]] W fun e w'=>zd r W w'∧X5 r g W res e w':=fun W hK hR =>
  (hex W _ _ hR (ab.out.trans (am.out.trans hK))).mono fun e w' h=>⟨h.1,h⟩
 have Z:Hid (zf r g (o+5) (cap-1) (t6::Y) w6):=aq;clear hex z s T aq p2 aj al;rcases res with a | ⟨l,us⟩
 ·obtain rfl:R=.error a:=by rw [←hres];unfold vF;rfl
  have N:∀W:World,zd r w6 W→zf r g (o+5) (cap-1) (t6::Y) W→Calls Tryz.prog 196 #[.pointer (some ⟨r,0,none⟩),.func (.func 44) #[.pointer (some ⟨r,0,none⟩)] #[]] W fun e w'=>e=ZH a∧zd r w w':=fun W hK hR=>(cb W hK hR).mono fun e w' h=>⟨h.2.2,ab.out.trans (am.out.trans (hK.trans h.1))⟩
  clear cb;go_wp2_with fail
  go_region_dies
  all_goals
   go_wp2_with fail
   refine (N _ ?_ ?_).mono ?_
   ·first | exact zd.drew r w6 | exact ((zd.refl r w6).alloc _).trans (zd.drew _ _)
   ·first | exact Z.out.keep rfl rfl | exact (Z.out.alloc _).keep rfl rfl
   ·rintro e w4 ⟨rfl,O⟩;exact ⟨rfl,O,rfl⟩
 ·have aw:=hEnd l us rfl
  obtain ⟨t3,J,rfl⟩:=aw.cons
  have N:∀W:World,zd r w6 W→zf r g (o+5) (cap-1) (t6::Y) W→Calls Tryz.prog 196 #[.pointer (some ⟨r,0,none⟩),.func (.func 44) #[.pointer (some ⟨r,0,none⟩)] #[]] W fun e w'=>∃(D:Option Addr) (G d2:Nat),e=.returned (.slice D G d2)∧w'.cell? ⟨w.heap.size+1+1,3,none⟩=some (.int .i64 t.line)∧W.heap.size≤w'.heap.size∧(W.heap[w6.heap.size]?=some Zu→w'.heap[w6.heap.size]?=some Zu) ∧
    Hid (zd r w2 W∧zd r W w'∧yN W.heap.size w' l (.slice D G d2)∧∃o cap,zf r g o cap (t3::J) w'):=fun W hK hR=>(cb W hK hR).mono fun e w' h=>by
   obtain ⟨O,-,v,o4,ar,rfl,H,V⟩:=h
   obtain ⟨D,G,d2,rfl⟩:∃D G d2,v=.slice D G d2:=by
    rcases H with ⟨-,rfl⟩ | ⟨_,_,_,rfl,_⟩
    ·exact ⟨_,_,_,rfl⟩
    ·exact ⟨_,_,_,rfl⟩
   refine ⟨D,G,d2,rfl,O.cell (p:=⟨w.heap.size+1+1,3,none⟩) (by simp;omega) (hK.cell (p:=⟨w.heap.size+1+1,3,none⟩) (by simp;omega) c3),O.size,fun hz=>?_,am.out.trans hK,O,H,o4,ar,V⟩
   exact (O.block _ (Array.getElem?_eq_some_iff.1 hz).1 (by omega)).trans hz
  clear cb;go_wp2_with fail
  go_cut [5] (fun v wx=>Ym r g w2 l (t3::J) (.int .i64 10) (.string ⟨#[]⟩) (.int .i64 0) (.int .i64 t.line) v wx)
  case first =>
   go_region_held3 (fun W=>W.cell? ⟨w.heap.size+1+1,3,none⟩=some (.int .i64 t.line)) (first | go_keep | exact xU _ _ _ _ _ (by omega) m3 | exact xU _ _ _ _ _ (by omega) (aA _)) (first | (go_at_call 196;refine (N _ (by first | exact zd.drew r w6 | exact ((zd.refl r w6).alloc _).trans (zd.drew _ _)) (by first | exact Z.out.keep rfl rfl | exact (Z.out.alloc _).keep rfl rfl)).mono ?_;rintro e' w7 ⟨D,G,d2,rfl,m3,aN,an,H7⟩;have aA:=zj m3;first | (have p6:=an (World.alloc_heap_new w6 _);obtain ⟨q0,q1,q2,q3,q4,qf⟩:=zR p6) | skip))
   all_goals (obtain ⟨aa,U,A,K⟩:=H7.out)
   all_goals first
    | (have HN:Hid (Ym r g w2 l (t3::J) (.int .i64 10) (.string ⟨#[]⟩) (.int .i64 0) (.int .i64 t.line) (.pointer (some ⟨w6.heap.size,0,none⟩)) (set5 w7 w6.heap.size (.int .i64 10) (.string ⟨#[]⟩) (.int .i64 0) (.slice D G d2) (.int .i64 t.line))):=Ym.set _ _ _ _ aa U A K (by omega) (by omega) (by omega) (by simp) p6
       clear N H7 aa U A K an;go_wp2_with fail
       go_meet
       exact HN.out)
    | (have HN:Hid (Ym r g w2 l (t3::J) (.int .i64 10) (.string ⟨#[]⟩) (.int .i64 0) (.int .i64 t.line) (.pointer (some ⟨w7.heap.size,0,none⟩)) (w7.alloc (.cells #[.int .i64 10,.string ⟨#[]⟩,.int .i64 0,.slice D G d2,.int .i64 t.line] 45))):=Ym.alloc _ _ _ _ aa U A K
       clear N H7 aa U A K an;go_wp2_with fail
       go_meet
       exact HN.out)
  case rest =>
   obtain ⟨P,D,G,d2,rfl,hP,H,⟨o3,ax,V⟩,hk,aK⟩:=hcut;have hs:w2.heap.size≤wc.heap.size:=hk.size;have ay:P<wc.heap.size:=(Array.getElem?_eq_some_iff.1 hP).1;have cn:=yB r g o3 ax t3 J [93] wc V (fun hi=>(aw.tail (zi hi)).ne)
   have au:Hid (zd r w2 wc):=hk;have aD:Hid (wc.heap[P]?=some (.cells #[.int .i64 10,.string ⟨#[]⟩,.int .i64 0,.slice D G d2,.int .i64 t.line] 45 (0,0))):=hP;have az:Hid (zI (fun k=>w2.heap.size≤k∧k≠P) wc l (.slice D G d2)):=H
   clear hP H V hk N
   by_cases hm:zo t3 [93]=true
   ·simp only [if_pos hm] at cn
    obtain rfl:R=.ok (.mk 10 [] 0 l t.line,J):=by rw [←hres];unfold vF;simp only [zz,hm,if_true,List.tail_cons]
    go_wp2_with fail
    refine cn.mono ?_;clear cn;rintro e ao ⟨y,rfl,ai⟩;have ap:=au.out.trans y;have p0:=(ap.block _ (by omega) (by omega)).trans aB.out
    have pB:=(y.block _ ay (by omega)).trans aD.out
    obtain ⟨e0,e1,e2,e3,e4,-⟩:=zR pB;obtain ⟨q0,q1,q2,q3,q4,qf⟩:=zR p0;obtain ⟨z0,z1,z2,z3,z4⟩:=zT p0 (.int .i64 10) (.string ⟨#[]⟩) (.int .i64 0) (.slice D G d2) (.int .i64 t.line);have L:yN w2.heap.size ao l (.slice D G d2):=zI.wide (zI.kept az.out y.size fun k hk' hlt=>y.block k hlt (by omega)) fun k hk'=>hk'.1
    have HP:Hid (zH r g w (.ok (.mk 10 [] 0 l t.line,J)) (.returned (.agg #[.int .i64 10,.string ⟨#[]⟩,.int .i64 0,.slice D G d2,.int .i64 t.line])) (set5 ao w.heap.size (.int .i64 10) (.string ⟨#[]⟩) (.int .i64 0) (.slice D G d2) (.int .i64 t.line))) :=
     zH.of_set5 (B:=w2.heap.size) 10 [] 0 t.line (ab.out.trans ap) (Nat.le_refl _) hr aG L (by omega) ai
    clear ap y ai p0 pB L;go_wp2
    exact bodyPost_ret (v:=.agg #[.int .i64 10,.string ⟨#[]⟩,.int .i64 0,.slice D G d2,.int .i64 t.line]) (by simp [results,Tryz.results180,go_sem,z0,z1,z2,z3,z4]) rfl HP.out
   ·simp only [if_neg hm] at cn
    obtain rfl:R=.error t3.at0:=by rw [←hres];unfold vF;simp only [zz,if_neg hm]
    go_wp2_with fail
    refine cn.mono ?_;clear cn;rintro e ao ⟨y,rfl⟩;exact ⟨rfl,ab.out.trans (au.out.trans y),rfl⟩
def qE (t t6:Tk) (res:PR (List Ex)):PR Ex :=
 if t6.k=1 then
  match res with
  | .error a=>.error a
  | .ok (l,us)=>.ok (.mk 11 t6.s 0 l t.line,us)
 else .error t6.at0
theorem VU (r g o cap:Nat) (t t6:Tk) (ts6:List Tk) (w:World) (res:PR (List Ex)) (hi:zo t [110,101,119]=true) (hbr:t6.k=1→∀Z o1 cap1,zf r g o1 cap1 ts6 Z→zd r w Z→Calls Tryz.prog 195 #[.pointer (some ⟨r,0,none⟩),.func (.func 44) #[.pointer (some ⟨r,0,none⟩)] #[]] Z (X5 r g Z res)) (h:zf r g o cap (t::t6::ts6) w) (hE:zg (t::t6::ts6)) (hk1:t.k≠1) (hk2:t.k≠2) (hk3:t.k≠3) (hiT:zo t [116,114,117,101]=false) (hiF:zo t [102,97,108,115,101]=false) :
  Calls Tryz.prog 180 #[.pointer (some ⟨r,0,none⟩)] w (zH r g w (qE t t6 res)):=by
 generalize hres:qE t t6 res=R;have aT:∀(fn:Fn) (first cap:Array Value) (w:World),(Instr.makeFunc fn first cap).run Tryz.prog w=.ok (.func fn first cap) w:=fun _ _ _ _=>rfl
 obtain ⟨ts,ar⟩:∃ts,ts=t6::ts6:=⟨_,rfl⟩;rw [←ar] at h hE;have hr:=h.lt.1;have aI:=h.lt.2;have h0:=h.alloc Zu;have ch:=Z3 r g o cap t ts _ h0;obtain ⟨w2,T⟩:∃w2,w2=((w.alloc Zu).alloc (ZK t)).alloc (ZK t):=⟨_,rfl⟩;have h2:zf r g o cap (t::ts) w2:=by rw [T];exact (h0.alloc _).alloc _
 have k2:zd r w w2:=by rw [T];exact (((zd.refl r w).alloc _).alloc _).alloc _
 have n0:w2.heap[w.heap.size]?=some Zu:=by
  rw [T,Below.heap_alloc _ _ _ (by simp;omega),Below.heap_alloc _ _ _ (by simp)]
  exact World.alloc_heap_new _ _
 have n2:w2.heap[w.heap.size+1+1]?=some (ZK t):=by
  have hx:=World.alloc_heap_new ((w.alloc Zu).alloc (ZK t)) (ZK t);rw [←T,show ((w.alloc Zu).alloc (ZK t)).heap.size=w.heap.size+1+1 by simp] at hx
  exact hx
 have aC:w.heap.size+1+1<w2.heap.size:=(Array.getElem?_eq_some_iff.1 n2).1;have au:Hid (w2=((w.alloc Zu).alloc (ZK t)).alloc (ZK t)):=T;have ae:Hid (zd r w w2):=k2;have aB:Hid (w2.heap[w.heap.size]?=some Zu):=n0;have aG:Hid (w2.heap[w.heap.size+1+1]?=some (ZK t)):=n2;have aO:¬(t.k:Int)=1:=by omega
 have aM:¬(t.k:Int)=2:=by omega
 have aK:¬(t.k:Int)=3:=by omega
 clear h h0 T k2 n0 n2
 go_enter Tryz.func180,Tryz.ntmps180
 go_wp2_with fail
 refine ch.mono ?_;clear ch;rintro e Z ⟨rfl,rfl⟩;simp only [VP];have ah:Hid (zd r w2 w2):=zd.refl r w2;have ak:Hid (zf r g o cap (t::ts) w2):=h2;clear h2;have U:=Zt r g o cap t ts [116,114,117,101] w2 ak.out (fun hi=>(hE.tail (zi hi)).ne)
 rw [hiT] at U;go_wp2_with fail
 rw [←au.out];refine U.mono ?_;clear U;rintro e w3 ⟨rfl,I,G⟩;have an:Hid (zd r w2 w3):=ah.out.trans I;have ai:Hid (zf r g o cap (t::ts) w3):=show zf _ _ _ _ _ _ by simpa using G
 clear I G ah ak;clear au;have U:=Zt r g o cap t ts [102,97,108,115,101] w3 ai.out (fun hi=>(hE.tail (zi hi)).ne)
 rw [hiF] at U;go_wp2_with fail
 refine U.mono ?_;clear U;rintro e w4 ⟨rfl,I,G⟩;have aj:Hid (zd r w2 w4):=an.out.trans I;have am:Hid (zf r g o cap (t::ts) w4):=show zf _ _ _ _ _ _ by simpa using G
 clear I G an ai;have U:=Zt r g o cap t ts [110,101,119] w4 am.out (fun hi=>(hE.tail (zi hi)).ne)
 rw [hi] at U;go_wp2_with fail
 refine U.mono ?_;clear U;rintro e w5 ⟨rfl,I,G⟩;have af:zd r w2 w5:=aj.out.trans I;have av:zf r g (o+5) (cap-1) ts w5:=by simpa using G
 have ax:=hE.tail (zi hi);subst ar;have p2:=(af.block _ aC (by omega)).trans aG.out
 obtain ⟨-,-,-,c3,-,-⟩:=zR p2;have aR:=zj c3;have aP:=af.size;have az:Hid (zd r w2 w5):=af
 have cb:∀W:World,zd r w5 W→zf r g (o+5) (cap-1) (t6::ts6) W→Calls Tryz.prog 94 #[.pointer (some ⟨r,0,none⟩)] W fun e w'=>zd r W w'∧if t6.k=1 then e=.returned (.string (zb t6.s))∧zf r g (o+5+5) (cap-1-1) ts6 w' else e=ZH t6.at0:=fun W hK hR =>
  xe r g _ _ t6 ts6 W hR (fun hk=>(ax.tail (by omega)).ne)
 have ab:Hid (zf r g (o+5) (cap-1) (t6::ts6) w5):=av;clear I G af av p2 aj am
 by_cases h6:t6.k=1
 ·have aF:=ax.tail (by omega:t6.k≠0)
  obtain ⟨t7,Q,rfl⟩:=aF.cons
  have O:∀W:World,zd r w5 W→zf r g (o+5) (cap-1) (t6::t7::Q) W→Calls Tryz.prog 94 #[.pointer (some ⟨r,0,none⟩)] W fun e w'=>e=.returned (.string (zb t6.s))∧w'.cell? ⟨w.heap.size+1+1,3,none⟩=some (.int .i64 t.line)∧W.heap.size≤w'.heap.size∧(W.heap[w5.heap.size]?=some Zu→w'.heap[w5.heap.size]?=some Zu) ∧
    Hid (zd r w2 W∧zd r W w'∧zf r g (o+5+5) (cap-1-1) (t7::Q) w'):=fun W hK hR=>(cb W hK hR).mono fun e w' h=>by
   obtain ⟨H,y⟩:=h;rw [if_pos h6] at y;obtain ⟨rfl,J⟩:=y;refine ⟨rfl,H.cell (p:=⟨w.heap.size+1+1,3,none⟩) (by simp;omega) (hK.cell (p:=⟨w.heap.size+1+1,3,none⟩) (by simp;omega) c3),H.size,fun hz=>?_,az.out.trans hK,H,J⟩
   exact (H.block _ (Array.getElem?_eq_some_iff.1 hz).1 (by omega)).trans hz
  have aw:Hid (∀Z o1 cap1,zf r g o1 cap1 (t7::Q) Z→zd r w Z→Calls Tryz.prog 195 #[.pointer (some ⟨r,0,none⟩),.func (.func 44) #[.pointer (some ⟨r,0,none⟩)] #[]] Z (X5 r g Z res)):=hbr h6;clear cb hbr;go_wp2_with fail
  go_cut [4] (fun v wx=>Ym r g w2 [] (t7::Q) (.int .i64 11) (.string (zb t6.s)) (.int .i64 0) (.int .i64 t.line) v wx)
  case first =>
   go_region_held3 (fun W=>W.cell? ⟨w.heap.size+1+1,3,none⟩=some (.int .i64 t.line)) (first | go_keep | exact xU _ _ _ _ _ (by omega) m3 | exact xU _ _ _ _ _ (by omega) (aA _)) (first | (go_at_call 94;refine (O _ (by first | exact zd.drew r w5 | exact ((zd.refl r w5).alloc _).trans (zd.drew _ _)) (by first | exact ab.out.keep rfl rfl | exact (ab.out.alloc _).keep rfl rfl)).mono ?_;rintro e' w7 ⟨rfl,m3,aS,ao,H7⟩;have aA:=zj m3;first | (have p6:=ao (World.alloc_heap_new w5 _);obtain ⟨q0,q1,q2,q3,q4,qf⟩:=zR p6) | skip))
   all_goals (obtain ⟨ad,aa,L⟩:=H7.out)
   all_goals first
    | (have HN:Hid (Ym r g w2 [] (t7::Q) (.int .i64 11) (.string (zb t6.s)) (.int .i64 0) (.int .i64 t.line) (.pointer (some ⟨w5.heap.size,0,none⟩)) (set5 w7 w5.heap.size (.int .i64 11) (.string (zb t6.s)) (.int .i64 0) (.slice none 0 0) (.int .i64 t.line))):=Ym.set _ _ _ _ ad aa (.inl ⟨rfl,rfl⟩) ⟨_,_,L⟩ (by omega) (by omega) (by omega) (by simp) p6
       clear O H7 ad aa L ao;go_wp2_with fail
       go_meet
       exact HN.out)
    | (have HN:Hid (Ym r g w2 [] (t7::Q) (.int .i64 11) (.string (zb t6.s)) (.int .i64 0) (.int .i64 t.line) (.pointer (some ⟨w7.heap.size,0,none⟩)) (w7.alloc (.cells #[.int .i64 11,.string (zb t6.s),.int .i64 0,.slice none 0 0,.int .i64 t.line] 45))):=Ym.alloc _ _ _ _ ad aa (.inl ⟨rfl,rfl⟩) ⟨_,_,L⟩
       clear O H7 ad aa L ao;go_wp2_with fail
       go_meet
       exact HN.out)
  case rest =>
   obtain ⟨P,d0,d1,d2,rfl,hP,D,⟨o3,aN,J⟩,hk,aQ⟩:=hcut
   obtain ⟨rfl,rfl,rfl⟩:d0=none∧d1=0∧d2=0:=by
    rcases D with ⟨-,hv⟩ | ⟨_,_,_,_,aJ,_⟩
    ·cases hv;exact ⟨rfl,rfl,rfl⟩
    ·exact absurd rfl aJ
   have hs:w2.heap.size≤wc.heap.size:=hk.size;have ay:P<wc.heap.size:=(Array.getElem?_eq_some_iff.1 hP).1;have cn:=aw.out wc _ _ J (ae.out.trans hk);have aH:Hid (zd r w2 wc):=hk;have aD:Hid (wc.heap[P]?=some (.cells #[.int .i64 11,.string (zb t6.s),.int .i64 0,.slice none 0 0,.int .i64 t.line] 45 (0,0))):=hP;clear hP D J hk O aw;go_wp2_with fail
   refine cn.mono ?_;clear cn;rintro e ag ⟨K,y⟩;have Y:Hid (zd r w2 ag):=aH.out.trans K;rcases res with a | ⟨l,us⟩
   ·obtain rfl:=y
    obtain rfl:R=.error a:=by rw [←hres];unfold qE;rw [if_pos h6]
    exact ⟨rfl,ae.out.trans Y.out,rfl⟩
   ·obtain ⟨v,o4,aq,rfl,D,J⟩:=y
    obtain rfl:R=.ok (.mk 11 t6.s 0 l t.line,us):=by rw [←hres];unfold qE;rw [if_pos h6]
    obtain ⟨e0,e1,e2,rfl⟩:∃e0 e1 e2,v=.slice e0 e1 e2:=by
     rcases D with ⟨-,rfl⟩ | ⟨_,_,_,rfl,_⟩
     ·exact ⟨_,_,_,rfl⟩
     ·exact ⟨_,_,_,rfl⟩
    have pB:=(K.block _ ay (by omega)).trans aD.out
    obtain ⟨-,-,-,g3,-,gf⟩:=zR pB;have aU:=gf 3;obtain ⟨w13,A⟩:∃w13,w13=ag.setCell ⟨P,3,none⟩ (.slice e0 e1 e2):=⟨_,rfl⟩;have aE:=A.symm;have z:∀k,k≠P→w13.heap[k]?=ag.heap[k]?:=fun k hk=>by rw [A];exact Below.heap_setCell _ _ _ _ (by simpa using hk)
    have pC:w13.heap[P]?=some (.cells #[.int .i64 11,.string (zb t6.s),.int .i64 0,.slice e0 e1 e2,.int .i64 t.line] 45 (0,0)):=by rw [A];exact zn _ pB
    have p0:=(z w.heap.size (by omega)).trans ((Y.out.block _ (by omega) (by omega)).trans aB.out)
    have aL:=K.size;have ap:ag.heap.size≤w13.heap.size:=by rw [A];simp
    have al:zd r w w13:=by rw [A];exact (ae.out.trans Y.out).setOther (by simp;omega) _
    have N:yN wc.heap.size w13 l (.slice e0 e1 e2):=yN.kept D ap fun k hB _=>z k (by omega)
    have V:zf r g o4 aq us w13:=J.keep (z r (by omega)) (z g (by omega))
    obtain ⟨f0,f1,f2,f3,f4,-⟩:=zR pC;obtain ⟨q0,q1,q2,q3,q4,qf⟩:=zR p0;obtain ⟨z0,z1,z2,z3,z4⟩:=zT p0 (.int .i64 11) (.string (zb t6.s)) (.int .i64 0) (.slice e0 e1 e2) (.int .i64 t.line)
    have HP:Hid (zH r g w (.ok (.mk 11 t6.s 0 l t.line,us)) (.returned (.agg #[.int .i64 11,.string (zb t6.s),.int .i64 0,.slice e0 e1 e2,.int .i64 t.line])) (set5 w13 w.heap.size (.int .i64 11) (.string (zb t6.s)) (.int .i64 0) (.slice e0 e1 e2) (.int .i64 t.line))) :=
     zH.of_set5 (B:=wc.heap.size) 11 t6.s 0 t.line al (Nat.le_refl _) hr aI N (by omega) V
    clear K p0 pB pC D J N V al z A gf;go_wp2
    exact bodyPost_ret (v:=.agg #[.int .i64 11,.string (zb t6.s),.int .i64 0,.slice e0 e1 e2,.int .i64 t.line]) (by simp [results,Tryz.results180,go_sem,z0,z1,z2,z3,z4]) rfl HP.out
 ·obtain rfl:R=.error t6.at0:=by rw [←hres];unfold qE;rw [if_neg h6]
  have O:∀W:World,zd r w5 W→zf r g (o+5) (cap-1) (t6::ts6) W→Calls Tryz.prog 94 #[.pointer (some ⟨r,0,none⟩)] W fun e w'=>e=ZH t6.at0∧zd r w w':=fun W hK hR=>(cb W hK hR).mono fun e w' h=>by
   obtain ⟨H,y⟩:=h;rw [if_neg h6] at y;exact ⟨y,ae.out.trans (az.out.trans (hK.trans H))⟩
  clear cb hbr;go_wp2_with fail
  go_region_dies
  all_goals
   go_wp2_with fail
   refine (O _ ?_ ?_).mono ?_
   ·first | exact zd.drew r w5 | exact ((zd.refl r w5).alloc _).trans (zd.drew _ _)
   ·first | exact ab.out.keep rfl rfl | exact (ab.out.alloc _).keep rfl rfl
   ·rintro e w4 ⟨rfl,H⟩;exact ⟨rfl,H,rfl⟩
end Go.Proofs.YtpejpbbdgblbeaaGreatDoor
