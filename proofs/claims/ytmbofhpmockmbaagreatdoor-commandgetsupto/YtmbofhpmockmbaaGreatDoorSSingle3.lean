import Derived.Test.YtmbofhpmockmbaaGreatDoorMC26
import Derived.Deep.DeepCutAuto
import Derived.Deep.RegionHeld3
namespace Go.Proofs.YtmbofhpmockmbaaGreatDoor
open Go.RowKit Go.Shelf
set_option maxHeartbeats 16000000
set_option maxRecDepth 100000
theorem zb.drew (r:Nat) (w:World):zb r w w.drew:=⟨rfl,rfl,rfl,Nat.le_refl _,fun _ _ _=>rfl⟩
def ZL (r g:Nat) (w2:World) (l:List Ex) (us:List Tk) (x0 x1 x2 x4:Value) (v:Value) (wx:World):Prop :=
 ∃(P:Nat) (d0:Option Addr) (d1 d2:Nat),v=.pointer (some ⟨P,0,none⟩)∧wx.heap[P]?=some (.cells #[x0,x1,x2,.slice d0 d1 d2,x4] 90 (0,0))∧zO (fun k=>w2.heap.size≤k∧k≠P) wx l (.slice d0 d1 d2)∧(∃o cap,zc r g o cap us wx)∧zb r w2 wx∧w2.heap.size≤P
theorem zO.low {S:Nat→Prop} {w:World} {l:List Ex} {v:Value} (h:zO S w l v):zO (fun k=>S k∧k<w.heap.size) w l v:=by
 rcases h with h | ⟨g,A,I,K,D,z,J,E,H,L,o,y,G⟩
 ·exact .inl h
 ·exact .inr ⟨g,A,I,K,D,z,⟨J,E⟩,E,H,L,o,y,fun j x c hx hc'=>zC.low (G j x c hx hc')⟩
theorem ZL.alloc {r g:Nat} {w2 W w7:World} {l:List Ex} {t:Tk} {us:List Tk} {d0:Option Addr} {d1 d2:Nat} (x0 x1 x2 x4:Value) (hW:zb r w2 W) (hk:zb r W w7) (hrow:Zz W.heap.size w7 l (.slice d0 d1 d2)) (z:∃o y,zc r g o y (t::us) w7) :
  ZL r g w2 l (t::us) x0 x1 x2 x4 (.pointer (some ⟨w7.heap.size,0,none⟩)) (w7.alloc (.cells #[x0,x1,x2,.slice d0 d1 d2,x4] 90)):=by
 obtain ⟨o,y,z⟩:=z;have D:=hW.size;have A:=hk.size;refine ⟨w7.heap.size,d0,d1,d2,rfl,World.alloc_heap_new _ _,?_,⟨o,y,z.alloc _⟩,(hW.trans hk).alloc _,by omega⟩
 exact zO.wide (zO.kept (zO.low hrow) (by simp) fun k hk' _=>Below.heap_alloc _ _ _ hk'.2) fun k hk'=>⟨by omega,by omega⟩
theorem ZL.set {r g P:Nat} {w2 W w7:World} {l:List Ex} {t:Tk} {us:List Tk} {d0:Option Addr} {d1 d2:Nat} (x0 x1 x2 x4:Value) (hW:zb r w2 W) (hk:zb r W w7) (hrow:Zz W.heap.size w7 l (.slice d0 d1 d2)) (y:∃o z,zc r g o z (t::us) w7)
  (hr:r<w2.heap.size) (hg:g<w2.heap.size) (hP:w2.heap.size≤P) (hPW:P<W.heap.size) (hb:w7.heap[P]?=some zE) :
  ZL r g w2 l (t::us) x0 x1 x2 x4 (.pointer (some ⟨P,0,none⟩)) (set5 w7 P x0 x1 x2 (.slice d0 d1 d2) x4):=by
 obtain ⟨o,z,y⟩:=y;refine ⟨P,d0,d1,d2,rfl,yK hb _ _ _ _ _,?_,⟨o,z,y.keep (zj _ _ _ _ _ _ _ (by omega)) (zj _ _ _ _ _ _ _ (by omega))⟩,ZF (hW.trans hk) hP _ _ _ _ _,hP⟩
 exact zO.wide (zO.kept hrow (w':=set5 w7 P x0 x1 x2 (.slice d0 d1 d2) x4) (by simp) fun k hk' _=>zj _ _ _ _ _ _ _ (by omega)) fun k hk'=>⟨by have:=hW.size;omega,by omega⟩
def Yr (t:Tk) (res:PR (List Ex)):PR Ex :=
 match res with
 | .error a=>.error a
 | .ok (l,us)=>if zq (zT us) [93]=true then .ok (.mk 10 [] 0 l t.line,us.tail) else .error (zT us).at0
theorem Xb (r g o cap:Nat) (t:Tk) (ts:List Tk) (w:World) (res:PR (List Ex)) (hi:zq t [91]=true) (hEnd:∀l us,res=.ok (l,us)→zk us) (hex:∀w1 o1 cap1,zc r g o1 cap1 ts w1→zb r w w1→Calls Tryz.prog 178 #[.pointer (some ⟨r,0,none⟩),.func (.func 74) #[.pointer (some ⟨r,0,none⟩)] #[]] w1 (Yl r g w1 res)) (h:zc r g o cap (t::ts) w) (hE:zk (t::ts)) (hk1:t.k≠1) (hk2:t.k≠2) (hk3:t.k≠3) (hiT:zq t [116,114,117,101]=false) (hiF:zq t [102,97,108,115,101]=false) (hiN:zq t [110,101,119]=false) :
  Calls Tryz.prog 168 #[.pointer (some ⟨r,0,none⟩)] w (zl r g w (Yr t res)):=by
 generalize hres:Yr t res=R;have aN:∀(fn:Fn) (first cap:Array Value) (w:World),(Instr.makeFunc fn first cap).run Tryz.prog w=.ok (.func fn first cap) w:=fun _ _ _ _=>rfl
 have hr:=h.lt.1;have aA:=h.lt.2;have h0:=h.alloc zE;have ch:=Zk r g o cap t ts _ h0;obtain ⟨w2,O⟩:∃w2,w2=((w.alloc zE).alloc (zJ t)).alloc (zJ t):=⟨_,rfl⟩;have h2:zc r g o cap (t::ts) w2:=by rw [O];exact (h0.alloc _).alloc _
 have k2:zb r w w2:=by rw [O];exact (((zb.refl r w).alloc _).alloc _).alloc _
 have n0:w2.heap[w.heap.size]?=some zE:=by
  rw [O,Below.heap_alloc _ _ _ (by simp;omega),Below.heap_alloc _ _ _ (by simp)]
  exact World.alloc_heap_new _ _
 have n2:w2.heap[w.heap.size+1+1]?=some (zJ t):=by
  have hx:=World.alloc_heap_new ((w.alloc zE).alloc (zJ t)) (zJ t);rw [←O,show ((w.alloc zE).alloc (zJ t)).heap.size=w.heap.size+1+1 by simp] at hx
  exact hx
 have aC:w.heap.size+1+1<w2.heap.size:=(Array.getElem?_eq_some_iff.1 n2).1;have ar:Hid (w2=((w.alloc zE).alloc (zJ t)).alloc (zJ t)):=O;have X:Hid (zb r w w2):=k2;have az:Hid (w2.heap[w.heap.size]?=some zE):=n0;have aE:Hid (w2.heap[w.heap.size+1+1]?=some (zJ t)):=n2;have aI:¬(t.k:Int)=1:=by omega
 have aG:¬(t.k:Int)=2:=by omega
 have aH:¬(t.k:Int)=3:=by omega
 clear h h0 O k2 n0 n2
 go_enter Tryz.func168,Tryz.ntmps168
 go_wp2_with fail
 refine ch.mono ?_;clear ch;rintro e w1 ⟨rfl,rfl⟩;simp only [xT];have ai:Hid (zb r w2 w2):=zb.refl r w2;have af:Hid (zc r g o cap (t::ts) w2):=h2;clear h2;have I:=Zi r g o cap t ts [116,114,117,101] w2 af.out (fun hi=>(hE.tail (zi hi)).ne)
 rw [hiT] at I;go_wp2_with fail
 rw [←ar.out];refine I.mono ?_;clear I;rintro e w3 ⟨rfl,A,y⟩;have ae:Hid (zb r w2 w3):=ai.out.trans A;have ag:Hid (zc r g o cap (t::ts) w3):=show zc _ _ _ _ _ _ by simpa using y
 clear A y ai af;clear ar;have I:=Zi r g o cap t ts [102,97,108,115,101] w3 ag.out (fun hi=>(hE.tail (zi hi)).ne)
 rw [hiF] at I;go_wp2_with fail
 refine I.mono ?_;clear I;rintro e w4 ⟨rfl,A,y⟩;have ak:Hid (zb r w2 w4):=ae.out.trans A;have aj:Hid (zc r g o cap (t::ts) w4):=show zc _ _ _ _ _ _ by simpa using y
 clear A y ae ag;have I:=Zi r g o cap t ts [110,101,119] w4 aj.out (fun hi=>(hE.tail (zi hi)).ne)
 rw [hiN] at I;go_wp2_with fail
 refine I.mono ?_;clear I;rintro e w5 ⟨rfl,A,y⟩;have ad:Hid (zb r w2 w5):=ak.out.trans A;have ab:Hid (zc r g o cap (t::ts) w5):=show zc _ _ _ _ _ _ by simpa using y
 clear A y ak aj;have I:=Zi r g o cap t ts [91] w5 ab.out (fun hi=>(hE.tail (zi hi)).ne)
 rw [hi] at I;go_wp2_with fail
 refine I.mono ?_;clear I;rintro e w6 ⟨rfl,A,y⟩;have aa:zb r w2 w6:=ad.out.trans A;have ap:zc r g (o+5) (cap-1) ts w6:=by simpa using y
 have aF:=hE.tail (zi hi);obtain ⟨t6,V,rfl⟩:=aF.cons;have p2:=(aa.block _ aC (by omega)).trans aE.out
 obtain ⟨-,-,-,c3,-,-⟩:=zv p2;have aM:=zg c3;have aK:=aa.size;have ao:Hid (zb r w2 w6):=aa;have aO:Hid (w6.heap[w.heap.size+1+1]?=some (zJ t)):=p2
 have cb:∀W:World,zb r w6 W→zc r g (o+5) (cap-1) (t6::V) W→Calls Tryz.prog 178 #[.pointer (some ⟨r,0,none⟩),.func (.func 74) #[.pointer (some ⟨r,0,none⟩)] #[]] W fun e w'=>zb r W w'∧Yl r g W res e w':=fun W hK hR =>
  (hex W _ _ hR (X.out.trans (ao.out.trans hK))).mono fun e w' h=>⟨h.1,h⟩
 have U:Hid (zc r g (o+5) (cap-1) (t6::V) w6):=ap;clear hex A y aa ap p2 ad ab;rcases res with a | ⟨l,us⟩
 ·obtain rfl:R=.error a:=by rw [←hres];unfold Yr;rfl
  have Q:∀W:World,zb r w6 W→zc r g (o+5) (cap-1) (t6::V) W→Calls Tryz.prog 178 #[.pointer (some ⟨r,0,none⟩),.func (.func 74) #[.pointer (some ⟨r,0,none⟩)] #[]] W fun e w'=>e=Zv a∧zb r w w':=fun W hK hR=>(cb W hK hR).mono fun e w' h=>⟨h.2.2,X.out.trans (ao.out.trans (hK.trans h.1))⟩
  clear cb;go_wp2_with fail
  go_region_dies
  all_goals
   go_wp2_with fail
   refine (Q _ ?_ ?_).mono ?_
   ·first | exact zb.drew r w6 | exact ((zb.refl r w6).alloc _).trans (zb.drew _ _)
   ·first | exact U.out.keep rfl rfl | exact (U.out.alloc _).keep rfl rfl
   ·rintro e w4 ⟨rfl,M⟩;exact ⟨rfl,M,rfl⟩
 ·have aq:=hEnd l us rfl
  obtain ⟨t3,J,rfl⟩:=aq.cons
  have Q:∀W:World,zb r w6 W→zc r g (o+5) (cap-1) (t6::V) W→Calls Tryz.prog 178 #[.pointer (some ⟨r,0,none⟩),.func (.func 74) #[.pointer (some ⟨r,0,none⟩)] #[]] W fun e w'=>∃(G:Option Addr) (H d2:Nat),e=.returned (.slice G H d2)∧w'.cell? ⟨w.heap.size+1+1,3,none⟩=some (.int .i64 t.line)∧W.heap.size≤w'.heap.size∧(W.heap[w6.heap.size]?=some zE→w'.heap[w6.heap.size]?=some zE) ∧
    Hid (zb r w2 W∧zb r W w'∧Zz W.heap.size w' l (.slice G H d2)∧∃o cap,zc r g o cap (t3::J) w'):=fun W hK hR=>(cb W hK hR).mono fun e w' h=>by
   obtain ⟨M,-,v,o4,aw,rfl,E,T⟩:=h
   obtain ⟨G,H,d2,rfl⟩:∃G H d2,v=.slice G H d2:=by
    rcases E with ⟨-,rfl⟩ | ⟨_,_,_,rfl,_⟩
    ·exact ⟨_,_,_,rfl⟩
    ·exact ⟨_,_,_,rfl⟩
   refine ⟨G,H,d2,rfl,M.cell (p:=⟨w.heap.size+1+1,3,none⟩) (by simp;omega) (hK.cell (p:=⟨w.heap.size+1+1,3,none⟩) (by simp;omega) c3),M.size,fun hz=>?_,ao.out.trans hK,M,E,o4,aw,T⟩
   exact (M.block _ (Array.getElem?_eq_some_iff.1 hz).1 (by omega)).trans hz
  clear cb;go_wp2_with fail
  go_cut [5] (fun v wx=>ZL r g w2 l (t3::J) (.int .i64 10) (.string ⟨#[]⟩) (.int .i64 0) (.int .i64 t.line) v wx)
  case first =>
   go_region_held3 (fun W=>W.cell? ⟨w.heap.size+1+1,3,none⟩=some (.int .i64 t.line)) (first | go_keep | exact yB _ _ _ _ _ (by omega) m3 | exact yB _ _ _ _ _ (by omega) (aB _)) (first | (go_at_call 178;refine (Q _ (by first | exact zb.drew r w6 | exact ((zb.refl r w6).alloc _).trans (zb.drew _ _)) (by first | exact U.out.keep rfl rfl | exact (U.out.alloc _).keep rfl rfl)).mono ?_;rintro e' w7 ⟨G,H,d2,rfl,m3,aL,al,H7⟩;have aB:=zg m3;first | (have p6:=al (World.alloc_heap_new w6 _);obtain ⟨q0,q1,q2,q3,q4,qf⟩:=zv p6) | skip))
   all_goals (obtain ⟨Z,Y,D,K⟩:=H7.out)
   all_goals first
    | (have HN:Hid (ZL r g w2 l (t3::J) (.int .i64 10) (.string ⟨#[]⟩) (.int .i64 0) (.int .i64 t.line) (.pointer (some ⟨w6.heap.size,0,none⟩)) (set5 w7 w6.heap.size (.int .i64 10) (.string ⟨#[]⟩) (.int .i64 0) (.slice G H d2) (.int .i64 t.line))):=ZL.set _ _ _ _ Z Y D K (by omega) (by omega) (by omega) (by simp) p6
       clear Q H7 Z Y D K al;go_wp2_with fail
       go_meet
       exact HN.out)
    | (have HN:Hid (ZL r g w2 l (t3::J) (.int .i64 10) (.string ⟨#[]⟩) (.int .i64 0) (.int .i64 t.line) (.pointer (some ⟨w7.heap.size,0,none⟩)) (w7.alloc (.cells #[.int .i64 10,.string ⟨#[]⟩,.int .i64 0,.slice G H d2,.int .i64 t.line] 90))):=ZL.alloc _ _ _ _ Z Y D K
       clear Q H7 Z Y D K al;go_wp2_with fail
       go_meet
       exact HN.out)
  case rest =>
   obtain ⟨P,G,H,d2,rfl,hP,E,⟨o3,ay,T⟩,hk,aJ⟩:=hcut;have hs:w2.heap.size≤wc.heap.size:=hk.size;have au:P<wc.heap.size:=(Array.getElem?_eq_some_iff.1 hP).1;have cn:=YO r g o3 ay t3 J [93] wc T (fun hi=>(aq.tail (zi hi)).ne)
   have av:Hid (zb r w2 wc):=hk;have aD:Hid (wc.heap[P]?=some (.cells #[.int .i64 10,.string ⟨#[]⟩,.int .i64 0,.slice G H d2,.int .i64 t.line] 90 (0,0))):=hP;have ax:Hid (zO (fun k=>w2.heap.size≤k∧k≠P) wc l (.slice G H d2)):=E
   clear hP E T hk Q
   by_cases hm:zq t3 [93]=true
   ·simp only [if_pos hm] at cn
    obtain rfl:R=.ok (.mk 10 [] 0 l t.line,J):=by rw [←hres];unfold Yr;simp only [zH,hm,if_true,List.tail_cons]
    go_wp2_with fail
    refine cn.mono ?_;clear cn;rintro e am ⟨z,rfl,ah⟩;have an:=av.out.trans z;have p0:=(an.block _ (by omega) (by omega)).trans az.out
    have pB:=(z.block _ au (by omega)).trans aD.out
    obtain ⟨e0,e1,e2,e3,e4,-⟩:=zv pB;obtain ⟨q0,q1,q2,q3,q4,qf⟩:=zv p0;obtain ⟨z0,z1,z2,z3,z4⟩:=zr p0 (.int .i64 10) (.string ⟨#[]⟩) (.int .i64 0) (.slice G H d2) (.int .i64 t.line);have L:Zz w2.heap.size am l (.slice G H d2):=zO.wide (zO.kept ax.out z.size fun k hk' hlt=>z.block k hlt (by omega)) fun k hk'=>hk'.1
    have HP:Hid (zl r g w (.ok (.mk 10 [] 0 l t.line,J)) (.returned (.agg #[.int .i64 10,.string ⟨#[]⟩,.int .i64 0,.slice G H d2,.int .i64 t.line])) (set5 am w.heap.size (.int .i64 10) (.string ⟨#[]⟩) (.int .i64 0) (.slice G H d2) (.int .i64 t.line))) :=
     zl.of_set5 (B:=w2.heap.size) 10 [] 0 t.line (X.out.trans an) (Nat.le_refl _) hr aA L (by omega) ah
    clear an z ah p0 pB L;go_wp2
    exact bodyPost_ret (v:=.agg #[.int .i64 10,.string ⟨#[]⟩,.int .i64 0,.slice G H d2,.int .i64 t.line]) (by simp [results,Tryz.results168,go_sem,z0,z1,z2,z3,z4]) rfl HP.out
   ·simp only [if_neg hm] at cn
    obtain rfl:R=.error t3.at0:=by rw [←hres];unfold Yr;simp only [zH,if_neg hm]
    go_wp2_with fail
    refine cn.mono ?_;clear cn;rintro e am ⟨z,rfl⟩;exact ⟨rfl,X.out.trans (av.out.trans z),rfl⟩
end Go.Proofs.YtmbofhpmockmbaaGreatDoor
