import Derived.Test.YtpejpbbdgblbeaaGreatDoorMC16
import Derived.Deep.DeepCutAuto
import Derived.Deep.RegionHeld3
namespace Go.Proofs.YtpejpbbdgblbeaaGreatDoor
open Go.RowKit Go.Shelf
set_option maxHeartbeats 16000000
set_option maxRecDepth 100000
theorem zd.drew (r:Nat) (w:World):zd r w w.drew:=⟨rfl,rfl,rfl,Nat.le_refl _,fun _ _ _=>rfl⟩
def Yw (r g:Nat) (w2:World) (l:List Ex) (us:List Tk) (x0 x1 x2 x4:Value) (v:Value) (wx:World):Prop :=
 ∃(P:Nat) (d0:Option Addr) (d1 d2:Nat),v=.pointer (some ⟨P,0,none⟩)∧wx.heap[P]?=some (.cells #[x0,x1,x2,.slice d0 d1 d2,x4] 45 (0,0))∧zK (fun k=>w2.heap.size≤k∧k≠P) wx l (.slice d0 d1 d2)∧(∃o cap,zg r g o cap us wx)∧zd r w2 wx∧w2.heap.size≤P
theorem zK.low {S:Nat→Prop} {w:World} {l:List Ex} {v:Value} (h:zK S w l v):zK (fun k=>S k∧k<w.heap.size) w l v:=by
 rcases h with h | ⟨g,A,J,O,D,z,H,G,L,I,y,o,N⟩
 ·exact .inl h
 ·exact .inr ⟨g,A,J,O,D,z,⟨H,G⟩,G,L,I,y,o,fun j x c hx hc'=>zZ.low (N j x c hx hc')⟩
theorem Yw.alloc {r g:Nat} {w2 W w7:World} {l:List Ex} {t:Tk} {us:List Tk} {d0:Option Addr} {d1 d2:Nat} (x0 x1 x2 x4:Value) (hW:zd r w2 W) (hk:zd r W w7) (hrow:yW W.heap.size w7 l (.slice d0 d1 d2)) (h:∃o y,zg r g o y (t::us) w7) :
  Yw r g w2 l (t::us) x0 x1 x2 x4 (.pointer (some ⟨w7.heap.size,0,none⟩)) (w7.alloc (.cells #[x0,x1,x2,.slice d0 d1 d2,x4] 45)):=by
 obtain ⟨o,y,h⟩:=h;have A:=hW.size;have z:=hk.size;refine ⟨w7.heap.size,d0,d1,d2,rfl,World.alloc_heap_new _ _,?_,⟨o,y,h.alloc _⟩,(hW.trans hk).alloc _,by omega⟩
 exact zK.wide (zK.kept (zK.low hrow) (by simp) fun k hk' _=>Below.heap_alloc _ _ _ hk'.2) fun k hk'=>⟨by omega,by omega⟩
theorem Yw.set {r g P:Nat} {w2 W w7:World} {l:List Ex} {t:Tk} {us:List Tk} {d0:Option Addr} {d1 d2:Nat} (x0 x1 x2 x4:Value) (hW:zd r w2 W) (hk:zd r W w7) (hrow:yW W.heap.size w7 l (.slice d0 d1 d2)) (h:∃o y,zg r g o y (t::us) w7)
  (hr:r<w2.heap.size) (hg:g<w2.heap.size) (hP:w2.heap.size≤P) (hPW:P<W.heap.size) (hb:w7.heap[P]?=some Zz) :
  Yw r g w2 l (t::us) x0 x1 x2 x4 (.pointer (some ⟨P,0,none⟩)) (set5 w7 P x0 x1 x2 (.slice d0 d1 d2) x4):=by
 obtain ⟨o,y,h⟩:=h;refine ⟨P,d0,d1,d2,rfl,Yj hb _ _ _ _ _,?_,⟨o,y,h.keep (zu _ _ _ _ _ _ _ (by omega)) (zu _ _ _ _ _ _ _ (by omega))⟩,ZN (hW.trans hk) hP _ _ _ _ _,hP⟩
 exact zK.wide (zK.kept hrow (w':=set5 w7 P x0 x1 x2 (.slice d0 d1 d2) x4) (by simp) fun k hk' _=>zu _ _ _ _ _ _ _ (by omega)) fun k hk'=>⟨by have:=hW.size;omega,by omega⟩
def Vj (t:Tk) (res:PR (List Ex)):PR Ex :=
 match res with
 | .error a=>.error a
 | .ok (l,us)=>if zm (zv us) [93]=true then .ok (.mk 10 [] 0 l t.line,us.tail) else .error (zv us).at0
theorem qr (r g o cap:Nat) (t:Tk) (ts:List Tk) (w:World) (res:PR (List Ex)) (hi:zm t [91]=true) (hEnd:∀l us,res=.ok (l,us)→zi us) (hex:∀w1 o1 cap1,zg r g o1 cap1 ts w1→zd r w w1→Calls Tryz.prog 196 #[.pointer (some ⟨r,0,none⟩),.func (.func 44) #[.pointer (some ⟨r,0,none⟩)] #[]] w1 (vS r g w1 res)) (h:zg r g o cap (t::ts) w) (hE:zi (t::ts)) (hk1:t.k≠1) (hk2:t.k≠2) (hk3:t.k≠3) (hiT:zm t [116,114,117,101]=false) (hiF:zm t [102,97,108,115,101]=false) (hiN:zm t [110,101,119]=false) :
  Calls Tryz.prog 180 #[.pointer (some ⟨r,0,none⟩)] w (zJ r g w (Vj t res)):=by
 generalize hres:Vj t res=R;have aP:∀(fn:Fn) (first cap:Array Value) (w:World),(Instr.makeFunc fn first cap).run Tryz.prog w=.ok (.func fn first cap) w:=fun _ _ _ _=>rfl
 have hr:=h.lt.1;have aE:=h.lt.2;have h0:=h.alloc Zz;have ch:=yh r g o cap t ts _ h0;obtain ⟨w2,Q⟩:∃w2,w2=((w.alloc Zz).alloc (ZK t)).alloc (ZK t):=⟨_,rfl⟩;have h2:zg r g o cap (t::ts) w2:=by rw [Q];exact (h0.alloc _).alloc _
 have k2:zd r w w2:=by rw [Q];exact (((zd.refl r w).alloc _).alloc _).alloc _
 have n0:w2.heap[w.heap.size]?=some Zz:=by
  rw [Q,Below.heap_alloc _ _ _ (by simp;omega),Below.heap_alloc _ _ _ (by simp)]
  exact World.alloc_heap_new _ _
 have n2:w2.heap[w.heap.size+1+1]?=some (ZK t):=by
  have hx:=World.alloc_heap_new ((w.alloc Zz).alloc (ZK t)) (ZK t);rw [←Q,show ((w.alloc Zz).alloc (ZK t)).heap.size=w.heap.size+1+1 by simp] at hx
  exact hx
 have aC:w.heap.size+1+1<w2.heap.size:=(Array.getElem?_eq_some_iff.1 n2).1;have aB:Hid (w2=((w.alloc Zz).alloc (ZK t)).alloc (ZK t)):=Q;have ad:Hid (zd r w w2):=k2;have aD:Hid (w2.heap[w.heap.size]?=some Zz):=n0;have aF:Hid (w2.heap[w.heap.size+1+1]?=some (ZK t)):=n2;have aJ:¬(t.k:Int)=1:=by omega
 have aL:¬(t.k:Int)=2:=by omega
 have aK:¬(t.k:Int)=3:=by omega
 clear h h0 Q k2 n0 n2
 go_enter Tryz.func180,Tryz.ntmps180
 go_wp2_with fail
 refine ch.mono ?_;clear ch;rintro e w1 ⟨rfl,rfl⟩;simp only [uA];have ai:Hid (zd r w2 w2):=zd.refl r w2;have aj:Hid (zg r g o cap (t::ts) w2):=h2;clear h2;have J:=Zx r g o cap t ts [116,114,117,101] w2 aj.out (fun hi=>(hE.tail (zj hi)).ne)
 rw [hiT] at J;go_wp2_with fail
 rw [←aB.out];refine J.mono ?_;clear J;rintro e w3 ⟨rfl,z,A⟩;have af:Hid (zd r w2 w3):=ai.out.trans z;have ah:Hid (zg r g o cap (t::ts) w3):=show zg _ _ _ _ _ _ by simpa using A
 clear z A ai aj;clear aB;have J:=Zx r g o cap t ts [102,97,108,115,101] w3 ah.out (fun hi=>(hE.tail (zj hi)).ne)
 rw [hiF] at J;go_wp2_with fail
 refine J.mono ?_;clear J;rintro e w4 ⟨rfl,z,A⟩;have al:Hid (zd r w2 w4):=af.out.trans z;have ak:Hid (zg r g o cap (t::ts) w4):=show zg _ _ _ _ _ _ by simpa using A
 clear z A af ah;have J:=Zx r g o cap t ts [110,101,119] w4 ak.out (fun hi=>(hE.tail (zj hi)).ne)
 rw [hiN] at J;go_wp2_with fail
 refine J.mono ?_;clear J;rintro e w5 ⟨rfl,z,A⟩;have an:Hid (zd r w2 w5):=al.out.trans z;have am:Hid (zg r g o cap (t::ts) w5):=show zg _ _ _ _ _ _ by simpa using A
 clear z A al ak;have J:=Zx r g o cap t ts [91] w5 am.out (fun hi=>(hE.tail (zj hi)).ne)
 rw [hi] at J;go_wp2_with fail
 refine J.mono ?_;clear J;rintro e w6 ⟨rfl,z,A⟩;have V:zd r w2 w6:=an.out.trans z;have ax:zg r g (o+5) (cap-1) ts w6:=by simpa using A
 have aI:=hE.tail (zj hi);obtain ⟨t6,Y,rfl⟩:=aI.cons;have p2:=(V.block _ aC (by omega)).trans aF.out
 obtain ⟨-,-,-,c3,-,-⟩:=zU p2;have aR:=zl c3;have aO:=V.size;have aq:Hid (zd r w2 w6):=V;have aM:Hid (w6.heap[w.heap.size+1+1]?=some (ZK t)):=p2
 have cb:∀W:World,zd r w6 W→zg r g (o+5) (cap-1) (t6::Y) W→Calls Tryz.prog 196 #[.pointer (some ⟨r,0,none⟩),.func (.func 44) #[.pointer (some ⟨r,0,none⟩)] #[]] W fun e w'=>zd r W w'∧vS r g W res e w':=fun W hK hR =>
  (hex W _ _ hR (ad.out.trans (aq.out.trans hK))).mono fun e w' h=>⟨h.1,h⟩
 have Z:Hid (zg r g (o+5) (cap-1) (t6::Y) w6):=ax;clear hex z A V ax p2 an am;rcases res with a | ⟨l,us⟩
 ·obtain rfl:R=.error a:=by rw [←hres];unfold Vj;rfl
  have U:∀W:World,zd r w6 W→zg r g (o+5) (cap-1) (t6::Y) W→Calls Tryz.prog 196 #[.pointer (some ⟨r,0,none⟩),.func (.func 44) #[.pointer (some ⟨r,0,none⟩)] #[]] W fun e w'=>e=ZI a∧zd r w w':=fun W hK hR=>(cb W hK hR).mono fun e w' h=>⟨h.2.2,ad.out.trans (aq.out.trans (hK.trans h.1))⟩
  clear cb;go_wp2_with fail
  go_region_dies
  all_goals
   go_wp2_with fail
   refine (U _ ?_ ?_).mono ?_
   ·first | exact zd.drew r w6 | exact ((zd.refl r w6).alloc _).trans (zd.drew _ _)
   ·first | exact Z.out.keep rfl rfl | exact (Z.out.alloc _).keep rfl rfl
   ·rintro e w4 ⟨rfl,T⟩;exact ⟨rfl,T,rfl⟩
 ·have aw:=hEnd l us rfl
  obtain ⟨t3,L,rfl⟩:=aw.cons
  have U:∀W:World,zd r w6 W→zg r g (o+5) (cap-1) (t6::Y) W→Calls Tryz.prog 196 #[.pointer (some ⟨r,0,none⟩),.func (.func 44) #[.pointer (some ⟨r,0,none⟩)] #[]] W fun e w'=>∃(I:Option Addr) (G d2:Nat),e=.returned (.slice I G d2)∧w'.cell? ⟨w.heap.size+1+1,3,none⟩=some (.int .i64 t.line)∧W.heap.size≤w'.heap.size∧(W.heap[w6.heap.size]?=some Zz→w'.heap[w6.heap.size]?=some Zz) ∧
    Hid (zd r w2 W∧zd r W w'∧yW W.heap.size w' l (.slice I G d2)∧∃o cap,zg r g o cap (t3::L) w'):=fun W hK hR=>(cb W hK hR).mono fun e w' h=>by
   obtain ⟨T,-,v,o4,az,rfl,H,ae⟩:=h
   obtain ⟨I,G,d2,rfl⟩:∃I G d2,v=.slice I G d2:=by
    rcases H with ⟨-,rfl⟩ | ⟨_,_,_,rfl,_⟩
    ·exact ⟨_,_,_,rfl⟩
    ·exact ⟨_,_,_,rfl⟩
   refine ⟨I,G,d2,rfl,T.cell (p:=⟨w.heap.size+1+1,3,none⟩) (by simp;omega) (hK.cell (p:=⟨w.heap.size+1+1,3,none⟩) (by simp;omega) c3),T.size,fun hz=>?_,aq.out.trans hK,T,H,o4,az,ae⟩
   exact (T.block _ (Array.getElem?_eq_some_iff.1 hz).1 (by omega)).trans hz
  clear cb;go_wp2_with fail
  go_cut [5] (fun v wx=>Yw r g w2 l (t3::L) (.int .i64 10) (.string ⟨#[]⟩) (.int .i64 0) (.int .i64 t.line) v wx)
  case first =>
   go_region_held3 (fun W=>W.cell? ⟨w.heap.size+1+1,3,none⟩=some (.int .i64 t.line)) (first | go_keep | exact Xf _ _ _ _ _ (by omega) m3 | exact Xf _ _ _ _ _ (by omega) (aG _)) (first | (go_at_call 196;refine (U _ (by first | exact zd.drew r w6 | exact ((zd.refl r w6).alloc _).trans (zd.drew _ _)) (by first | exact Z.out.keep rfl rfl | exact (Z.out.alloc _).keep rfl rfl)).mono ?_;rintro e' w7 ⟨I,G,d2,rfl,m3,aN,ao,H7⟩;have aG:=zl m3;first | (have p6:=ao (World.alloc_heap_new w6 _);obtain ⟨q0,q1,q2,q3,q4,qf⟩:=zU p6) | skip))
   all_goals (obtain ⟨aa,ab,D,O⟩:=H7.out)
   all_goals first
    | (have HN:Hid (Yw r g w2 l (t3::L) (.int .i64 10) (.string ⟨#[]⟩) (.int .i64 0) (.int .i64 t.line) (.pointer (some ⟨w6.heap.size,0,none⟩)) (set5 w7 w6.heap.size (.int .i64 10) (.string ⟨#[]⟩) (.int .i64 0) (.slice I G d2) (.int .i64 t.line))):=Yw.set _ _ _ _ aa ab D O (by omega) (by omega) (by omega) (by simp) p6
       clear U H7 aa ab D O ao;go_wp2_with fail
       go_meet
       exact HN.out)
    | (have HN:Hid (Yw r g w2 l (t3::L) (.int .i64 10) (.string ⟨#[]⟩) (.int .i64 0) (.int .i64 t.line) (.pointer (some ⟨w7.heap.size,0,none⟩)) (w7.alloc (.cells #[.int .i64 10,.string ⟨#[]⟩,.int .i64 0,.slice I G d2,.int .i64 t.line] 45))):=Yw.alloc _ _ _ _ aa ab D O
       clear U H7 aa ab D O ao;go_wp2_with fail
       go_meet
       exact HN.out)
  case rest =>
   obtain ⟨P,I,G,d2,rfl,hP,H,⟨o3,aA,ae⟩,hk,aQ⟩:=hcut;have hs:w2.heap.size≤wc.heap.size:=hk.size;have ay:P<wc.heap.size:=(Array.getElem?_eq_some_iff.1 hP).1;have cn:=yJ r g o3 aA t3 L [93] wc ae (fun hi=>(aw.tail (zj hi)).ne)
   have au:Hid (zd r w2 wc):=hk;have aH:Hid (wc.heap[P]?=some (.cells #[.int .i64 10,.string ⟨#[]⟩,.int .i64 0,.slice I G d2,.int .i64 t.line] 45 (0,0))):=hP;have av:Hid (zK (fun k=>w2.heap.size≤k∧k≠P) wc l (.slice I G d2)):=H
   clear hP H ae hk U
   by_cases hm:zm t3 [93]=true
   ·simp only [if_pos hm] at cn
    obtain rfl:R=.ok (.mk 10 [] 0 l t.line,L):=by rw [←hres];unfold Vj;simp only [zE,hm,if_true,List.tail_cons]
    go_wp2_with fail
    refine cn.mono ?_;clear cn;rintro e ar ⟨y,rfl,ag⟩;have ap:=au.out.trans y;have p0:=(ap.block _ (by omega) (by omega)).trans aD.out
    have pB:=(y.block _ ay (by omega)).trans aH.out
    obtain ⟨e0,e1,e2,e3,e4,-⟩:=zU pB;obtain ⟨q0,q1,q2,q3,q4,qf⟩:=zU p0;obtain ⟨z0,z1,z2,z3,z4⟩:=zX p0 (.int .i64 10) (.string ⟨#[]⟩) (.int .i64 0) (.slice I G d2) (.int .i64 t.line);have N:yW w2.heap.size ar l (.slice I G d2):=zK.wide (zK.kept av.out y.size fun k hk' hlt=>y.block k hlt (by omega)) fun k hk'=>hk'.1
    have HP:Hid (zJ r g w (.ok (.mk 10 [] 0 l t.line,L)) (.returned (.agg #[.int .i64 10,.string ⟨#[]⟩,.int .i64 0,.slice I G d2,.int .i64 t.line])) (set5 ar w.heap.size (.int .i64 10) (.string ⟨#[]⟩) (.int .i64 0) (.slice I G d2) (.int .i64 t.line))) :=
     zJ.of_set5 (B:=w2.heap.size) 10 [] 0 t.line (ad.out.trans ap) (Nat.le_refl _) hr aE N (by omega) ag
    clear ap y ag p0 pB N;go_wp2
    exact bodyPost_ret (v:=.agg #[.int .i64 10,.string ⟨#[]⟩,.int .i64 0,.slice I G d2,.int .i64 t.line]) (by simp [results,Tryz.results180,go_sem,z0,z1,z2,z3,z4]) rfl HP.out
   ·simp only [if_neg hm] at cn
    obtain rfl:R=.error t3.at0:=by rw [←hres];unfold Vj;simp only [zE,if_neg hm]
    go_wp2_with fail
    refine cn.mono ?_;clear cn;rintro e ar ⟨y,rfl⟩;exact ⟨rfl,ad.out.trans (au.out.trans y),rfl⟩
def QM (t t6:Tk) (res:PR (List Ex)):PR Ex :=
 if t6.k=1 then
  match res with
  | .error a=>.error a
  | .ok (l,us)=>.ok (.mk 11 t6.s 0 l t.line,us)
 else .error t6.at0
theorem uE (r g o cap:Nat) (t t6:Tk) (ts6:List Tk) (w:World) (res:PR (List Ex)) (hi:zm t [110,101,119]=true) (hbr:t6.k=1→∀w1 o1 cap1,zg r g o1 cap1 ts6 w1→zd r w w1→Calls Tryz.prog 195 #[.pointer (some ⟨r,0,none⟩),.func (.func 44) #[.pointer (some ⟨r,0,none⟩)] #[]] w1 (vS r g w1 res)) (h:zg r g o cap (t::t6::ts6) w) (hE:zi (t::t6::ts6)) (hk1:t.k≠1) (hk2:t.k≠2) (hk3:t.k≠3) (hiT:zm t [116,114,117,101]=false) (hiF:zm t [102,97,108,115,101]=false) :
  Calls Tryz.prog 180 #[.pointer (some ⟨r,0,none⟩)] w (zJ r g w (QM t t6 res)):=by
 generalize hres:QM t t6 res=R;have aR:∀(fn:Fn) (first cap:Array Value) (w:World),(Instr.makeFunc fn first cap).run Tryz.prog w=.ok (.func fn first cap) w:=fun _ _ _ _=>rfl
 obtain ⟨ts,aw⟩:∃ts,ts=t6::ts6:=⟨_,rfl⟩;rw [←aw] at h hE;have hr:=h.lt.1;have aD:=h.lt.2;have h0:=h.alloc Zz;have ch:=yh r g o cap t ts _ h0;obtain ⟨w2,Q⟩:∃w2,w2=((w.alloc Zz).alloc (ZK t)).alloc (ZK t):=⟨_,rfl⟩;have h2:zg r g o cap (t::ts) w2:=by rw [Q];exact (h0.alloc _).alloc _
 have k2:zd r w w2:=by rw [Q];exact (((zd.refl r w).alloc _).alloc _).alloc _
 have n0:w2.heap[w.heap.size]?=some Zz:=by
  rw [Q,Below.heap_alloc _ _ _ (by simp;omega),Below.heap_alloc _ _ _ (by simp)]
  exact World.alloc_heap_new _ _
 have n2:w2.heap[w.heap.size+1+1]?=some (ZK t):=by
  have hx:=World.alloc_heap_new ((w.alloc Zz).alloc (ZK t)) (ZK t);rw [←Q,show ((w.alloc Zz).alloc (ZK t)).heap.size=w.heap.size+1+1 by simp] at hx
  exact hx
 have aB:w.heap.size+1+1<w2.heap.size:=(Array.getElem?_eq_some_iff.1 n2).1;have ay:Hid (w2=((w.alloc Zz).alloc (ZK t)).alloc (ZK t)):=Q;have ag:Hid (zd r w w2):=k2;have aC:Hid (w2.heap[w.heap.size]?=some Zz):=n0;have aF:Hid (w2.heap[w.heap.size+1+1]?=some (ZK t)):=n2;have aK:¬(t.k:Int)=1:=by omega
 have aO:¬(t.k:Int)=2:=by omega
 have aN:¬(t.k:Int)=3:=by omega
 clear h h0 Q k2 n0 n2
 go_enter Tryz.func180,Tryz.ntmps180
 go_wp2_with fail
 refine ch.mono ?_;clear ch;rintro e w1 ⟨rfl,rfl⟩;simp only [uA];have aj:Hid (zd r w2 w2):=zd.refl r w2;have ak:Hid (zg r g o cap (t::ts) w2):=h2;clear h2;have Y:=Zx r g o cap t ts [116,114,117,101] w2 ak.out (fun hi=>(hE.tail (zj hi)).ne)
 rw [hiT] at Y;go_wp2_with fail
 rw [←ay.out];refine Y.mono ?_;clear Y;rintro e w3 ⟨rfl,H,I⟩;have ah:Hid (zd r w2 w3):=aj.out.trans H;have ai:Hid (zg r g o cap (t::ts) w3):=show zg _ _ _ _ _ _ by simpa using I
 clear H I aj ak;clear ay;have Y:=Zx r g o cap t ts [102,97,108,115,101] w3 ai.out (fun hi=>(hE.tail (zj hi)).ne)
 rw [hiF] at Y;go_wp2_with fail
 refine Y.mono ?_;clear Y;rintro e w4 ⟨rfl,H,I⟩;have am:Hid (zd r w2 w4):=ah.out.trans H;have al:Hid (zg r g o cap (t::ts) w4):=show zg _ _ _ _ _ _ by simpa using I
 clear H I ah ai;have Y:=Zx r g o cap t ts [110,101,119] w4 al.out (fun hi=>(hE.tail (zj hi)).ne)
 rw [hi] at Y;go_wp2_with fail
 refine Y.mono ?_;clear Y;rintro e w5 ⟨rfl,H,I⟩;have aa:zd r w2 w5:=am.out.trans H;have av:zg r g (o+5) (cap-1) ts w5:=by simpa using I
 have ax:=hE.tail (zj hi);subst aw;have p2:=(aa.block _ aB (by omega)).trans aF.out
 obtain ⟨-,-,-,c3,-,-⟩:=zU p2;have aT:=zl c3;have aU:=aa.size;have aq:Hid (zd r w2 w5):=aa
 have cb:∀W:World,zd r w5 W→zg r g (o+5) (cap-1) (t6::ts6) W→Calls Tryz.prog 94 #[.pointer (some ⟨r,0,none⟩)] W fun e w'=>zd r W w'∧if t6.k=1 then e=.returned (.string (zb t6.s))∧zg r g (o+5+5) (cap-1-1) ts6 w' else e=ZI t6.at0:=fun W hK hR =>
  xu r g _ _ t6 ts6 W hR (fun hk=>(ax.tail (by omega)).ne)
 have ab:Hid (zg r g (o+5) (cap-1) (t6::ts6) w5):=av;clear H I aa av p2 am al
 by_cases h6:t6.k=1
 ·have aI:=ax.tail (by omega:t6.k≠0)
  obtain ⟨t7,T,rfl⟩:=aI.cons
  have U:∀W:World,zd r w5 W→zg r g (o+5) (cap-1) (t6::t7::T) W→Calls Tryz.prog 94 #[.pointer (some ⟨r,0,none⟩)] W fun e w'=>e=.returned (.string (zb t6.s))∧w'.cell? ⟨w.heap.size+1+1,3,none⟩=some (.int .i64 t.line)∧W.heap.size≤w'.heap.size∧(W.heap[w5.heap.size]?=some Zz→w'.heap[w5.heap.size]?=some Zz) ∧
    Hid (zd r w2 W∧zd r W w'∧zg r g (o+5+5) (cap-1-1) (t7::T) w'):=fun W hK hR=>(cb W hK hR).mono fun e w' h=>by
   obtain ⟨G,y⟩:=h;rw [if_pos h6] at y;obtain ⟨rfl,J⟩:=y;refine ⟨rfl,G.cell (p:=⟨w.heap.size+1+1,3,none⟩) (by simp;omega) (hK.cell (p:=⟨w.heap.size+1+1,3,none⟩) (by simp;omega) c3),G.size,fun hz=>?_,aq.out.trans hK,G,J⟩
   exact (G.block _ (Array.getElem?_eq_some_iff.1 hz).1 (by omega)).trans hz
  have az:Hid (∀w1 o1 cap1,zg r g o1 cap1 (t7::T) w1→zd r w w1→Calls Tryz.prog 195 #[.pointer (some ⟨r,0,none⟩),.func (.func 44) #[.pointer (some ⟨r,0,none⟩)] #[]] w1 (vS r g w1 res)):=hbr h6;clear cb hbr;go_wp2_with fail
  go_cut [4] (fun v wx=>Yw r g w2 [] (t7::T) (.int .i64 11) (.string (zb t6.s)) (.int .i64 0) (.int .i64 t.line) v wx)
  case first =>
   go_region_held3 (fun W=>W.cell? ⟨w.heap.size+1+1,3,none⟩=some (.int .i64 t.line)) (first | go_keep | exact Xf _ _ _ _ _ (by omega) m3 | exact Xf _ _ _ _ _ (by omega) (aG _)) (first | (go_at_call 94;refine (U _ (by first | exact zd.drew r w5 | exact ((zd.refl r w5).alloc _).trans (zd.drew _ _)) (by first | exact ab.out.keep rfl rfl | exact (ab.out.alloc _).keep rfl rfl)).mono ?_;rintro e' w7 ⟨rfl,m3,aQ,ao,H7⟩;have aG:=zl m3;first | (have p6:=ao (World.alloc_heap_new w5 _);obtain ⟨q0,q1,q2,q3,q4,qf⟩:=zU p6) | skip))
   all_goals (obtain ⟨ad,ae,O⟩:=H7.out)
   all_goals first
    | (have HN:Hid (Yw r g w2 [] (t7::T) (.int .i64 11) (.string (zb t6.s)) (.int .i64 0) (.int .i64 t.line) (.pointer (some ⟨w5.heap.size,0,none⟩)) (set5 w7 w5.heap.size (.int .i64 11) (.string (zb t6.s)) (.int .i64 0) (.slice none 0 0) (.int .i64 t.line))):=Yw.set _ _ _ _ ad ae (.inl ⟨rfl,rfl⟩) ⟨_,_,O⟩ (by omega) (by omega) (by omega) (by simp) p6
       clear U H7 ad ae O ao;go_wp2_with fail
       go_meet
       exact HN.out)
    | (have HN:Hid (Yw r g w2 [] (t7::T) (.int .i64 11) (.string (zb t6.s)) (.int .i64 0) (.int .i64 t.line) (.pointer (some ⟨w7.heap.size,0,none⟩)) (w7.alloc (.cells #[.int .i64 11,.string (zb t6.s),.int .i64 0,.slice none 0 0,.int .i64 t.line] 45))):=Yw.alloc _ _ _ _ ad ae (.inl ⟨rfl,rfl⟩) ⟨_,_,O⟩
       clear U H7 ad ae O ao;go_wp2_with fail
       go_meet
       exact HN.out)
  case rest =>
   obtain ⟨P,d0,d1,d2,rfl,hP,A,⟨o3,aM,J⟩,hk,aS⟩:=hcut
   obtain ⟨rfl,rfl,rfl⟩:d0=none∧d1=0∧d2=0:=by
    rcases A with ⟨-,hv⟩ | ⟨_,_,_,_,aE,_⟩
    ·cases hv;exact ⟨rfl,rfl,rfl⟩
    ·exact absurd rfl aE
   have hs:w2.heap.size≤wc.heap.size:=hk.size;have ar:P<wc.heap.size:=(Array.getElem?_eq_some_iff.1 hP).1;have cn:=az.out wc _ _ J (ag.out.trans hk);have aA:Hid (zd r w2 wc):=hk;have aH:Hid (wc.heap[P]?=some (.cells #[.int .i64 11,.string (zb t6.s),.int .i64 0,.slice none 0 0,.int .i64 t.line] 45 (0,0))):=hP;clear hP A J hk U az;go_wp2_with fail
   refine cn.mono ?_;clear cn;rintro e af ⟨L,y⟩;have Z:Hid (zd r w2 af):=aA.out.trans L;rcases res with a | ⟨l,us⟩
   ·obtain rfl:=y
    obtain rfl:R=.error a:=by rw [←hres];unfold QM;rw [if_pos h6]
    exact ⟨rfl,ag.out.trans Z.out,rfl⟩
   ·obtain ⟨v,o4,au,rfl,A,J⟩:=y
    obtain rfl:R=.ok (.mk 11 t6.s 0 l t.line,us):=by rw [←hres];unfold QM;rw [if_pos h6]
    obtain ⟨e0,e1,e2,rfl⟩:∃e0 e1 e2,v=.slice e0 e1 e2:=by
     rcases A with ⟨-,rfl⟩ | ⟨_,_,_,rfl,_⟩
     ·exact ⟨_,_,_,rfl⟩
     ·exact ⟨_,_,_,rfl⟩
    have pB:=(L.block _ ar (by omega)).trans aH.out
    obtain ⟨-,-,-,g3,-,gf⟩:=zU pB;have aP:=gf 3;obtain ⟨w13,D⟩:∃w13,w13=af.setCell ⟨P,3,none⟩ (.slice e0 e1 e2):=⟨_,rfl⟩;have aJ:=D.symm;have z:∀k,k≠P→w13.heap[k]?=af.heap[k]?:=fun k hk=>by rw [D];exact Below.heap_setCell _ _ _ _ (by simpa using hk)
    have pC:w13.heap[P]?=some (.cells #[.int .i64 11,.string (zb t6.s),.int .i64 0,.slice e0 e1 e2,.int .i64 t.line] 45 (0,0)):=by rw [D];exact zq _ pB
    have p0:=(z w.heap.size (by omega)).trans ((Z.out.block _ (by omega) (by omega)).trans aC.out)
    have aL:=L.size;have ap:af.heap.size≤w13.heap.size:=by rw [D];simp
    have an:zd r w w13:=by rw [D];exact (ag.out.trans Z.out).setOther (by simp;omega) _
    have N:yW wc.heap.size w13 l (.slice e0 e1 e2):=yW.kept A ap fun k hB _=>z k (by omega)
    have V:zg r g o4 au us w13:=J.keep (z r (by omega)) (z g (by omega))
    obtain ⟨f0,f1,f2,f3,f4,-⟩:=zU pC;obtain ⟨q0,q1,q2,q3,q4,qf⟩:=zU p0;obtain ⟨z0,z1,z2,z3,z4⟩:=zX p0 (.int .i64 11) (.string (zb t6.s)) (.int .i64 0) (.slice e0 e1 e2) (.int .i64 t.line)
    have HP:Hid (zJ r g w (.ok (.mk 11 t6.s 0 l t.line,us)) (.returned (.agg #[.int .i64 11,.string (zb t6.s),.int .i64 0,.slice e0 e1 e2,.int .i64 t.line])) (set5 w13 w.heap.size (.int .i64 11) (.string (zb t6.s)) (.int .i64 0) (.slice e0 e1 e2) (.int .i64 t.line))) :=
     zJ.of_set5 (B:=wc.heap.size) 11 t6.s 0 t.line an (Nat.le_refl _) hr aD N (by omega) V
    clear L p0 pB pC A J N V an z D gf;go_wp2
    exact bodyPost_ret (v:=.agg #[.int .i64 11,.string (zb t6.s),.int .i64 0,.slice e0 e1 e2,.int .i64 t.line]) (by simp [results,Tryz.results180,go_sem,z0,z1,z2,z3,z4]) rfl HP.out
 ·obtain rfl:R=.error t6.at0:=by rw [←hres];unfold QM;rw [if_neg h6]
  have U:∀W:World,zd r w5 W→zg r g (o+5) (cap-1) (t6::ts6) W→Calls Tryz.prog 94 #[.pointer (some ⟨r,0,none⟩)] W fun e w'=>e=ZI t6.at0∧zd r w w':=fun W hK hR=>(cb W hK hR).mono fun e w' h=>by
   obtain ⟨G,y⟩:=h;rw [if_neg h6] at y;exact ⟨y,ag.out.trans (aq.out.trans (hK.trans G))⟩
  clear cb hbr;go_wp2_with fail
  go_region_dies
  all_goals
   go_wp2_with fail
   refine (U _ ?_ ?_).mono ?_
   ·first | exact zd.drew r w5 | exact ((zd.refl r w5).alloc _).trans (zd.drew _ _)
   ·first | exact ab.out.keep rfl rfl | exact (ab.out.alloc _).keep rfl rfl
   ·rintro e w4 ⟨rfl,G⟩;exact ⟨rfl,G,rfl⟩
end Go.Proofs.YtpejpbbdgblbeaaGreatDoor
