import Derived.Test.YtmbofhpmockmbaaGreatDoorMC22
import Derived.Deep.DeepCutAuto
import Derived.Deep.RegionHeld3
namespace Go.Proofs.YtmbofhpmockmbaaGreatDoor
open Go.RowKit Go.Shelf
set_option maxHeartbeats 16000000
set_option maxRecDepth 100000
theorem zb.drew (r:Nat) (w:World):zb r w w.drew:=⟨rfl,rfl,rfl,Nat.le_refl _,fun _ _ _=>rfl⟩
def ZE (r g:Nat) (w2:World) (l:List Ex) (us:List Tk) (x0 x1 x2 x4:Value) (v:Value) (wx:World):Prop :=
 ∃(P:Nat) (d0:Option Addr) (d1 d2:Nat),v=.pointer (some ⟨P,0,none⟩)∧wx.heap[P]?=some (.cells #[x0,x1,x2,.slice d0 d1 d2,x4] 90 (0,0))∧zI (fun k=>w2.heap.size≤k∧k≠P) wx l (.slice d0 d1 d2)∧(∃o cap,zc r g o cap us wx)∧zb r w2 wx∧w2.heap.size≤P
theorem zI.low {S:Nat→Prop} {w:World} {l:List Ex} {v:Value} (h:zI S w l v):zI (fun k=>S k∧k<w.heap.size) w l v:=by
 rcases h with h | ⟨g,A,H,I,z,y,J,D,G,K,e,o,E⟩
 ·exact .inl h
 ·exact .inr ⟨g,A,H,I,z,y,⟨J,D⟩,D,G,K,e,o,fun j x c hx hc'=>zB.low (E j x c hx hc')⟩
theorem ZE.alloc {r g:Nat} {w2 W w7:World} {l:List Ex} {t:Tk} {us:List Tk} {d0:Option Addr} {d1 d2:Nat} (x0 x1 x2 x4:Value) (hW:zb r w2 W) (hk:zb r W w7) (hrow:Zr W.heap.size w7 l (.slice d0 d1 d2)) (e:∃o y,zc r g o y (t::us) w7) :
  ZE r g w2 l (t::us) x0 x1 x2 x4 (.pointer (some ⟨w7.heap.size,0,none⟩)) (w7.alloc (.cells #[x0,x1,x2,.slice d0 d1 d2,x4] 90)):=by
 obtain ⟨o,y,e⟩:=e;have A:=hW.size;have z:=hk.size;refine ⟨w7.heap.size,d0,d1,d2,rfl,World.alloc_heap_new _ _,?_,⟨o,y,e.alloc _⟩,(hW.trans hk).alloc _,by omega⟩
 exact zI.wide (zI.kept (zI.low hrow) (by simp) fun k hk' _=>Below.heap_alloc _ _ _ hk'.2) fun k hk'=>⟨by omega,by omega⟩
theorem ZE.set {r g P:Nat} {w2 W w7:World} {l:List Ex} {t:Tk} {us:List Tk} {d0:Option Addr} {d1 d2:Nat} (x0 x1 x2 x4:Value) (hW:zb r w2 W) (hk:zb r W w7) (hrow:Zr W.heap.size w7 l (.slice d0 d1 d2)) (e:∃o y,zc r g o y (t::us) w7)
  (hr:r<w2.heap.size) (hg:g<w2.heap.size) (hP:w2.heap.size≤P) (hPW:P<W.heap.size) (hb:w7.heap[P]?=some zD) :
  ZE r g w2 l (t::us) x0 x1 x2 x4 (.pointer (some ⟨P,0,none⟩)) (set5 w7 P x0 x1 x2 (.slice d0 d1 d2) x4):=by
 obtain ⟨o,y,e⟩:=e;refine ⟨P,d0,d1,d2,rfl,yC hb _ _ _ _ _,?_,⟨o,y,e.keep (zi _ _ _ _ _ _ _ (by omega)) (zi _ _ _ _ _ _ _ (by omega))⟩,Zx (hW.trans hk) hP _ _ _ _ _,hP⟩
 exact zI.wide (zI.kept hrow (w':=set5 w7 P x0 x1 x2 (.slice d0 d1 d2) x4) (by simp) fun k hk' _=>zi _ _ _ _ _ _ _ (by omega)) fun k hk'=>⟨by have:=hW.size;omega,by omega⟩
def y9 (t:Tk) (res:PR (List Ex)):PR Ex :=
 match res with
 | .error a=>.error a
 | .ok (l,us)=>if zp (zM us) [93]=true then .ok (.mk 10 [] 0 l t.line,us.tail) else .error (zM us).at0
theorem xB (r g o cap:Nat) (t:Tk) (ts:List Tk) (w:World) (res:PR (List Ex)) (hi:zp t [91]=true) (hEnd:∀l us,res=.ok (l,us)→zj us) (hex:∀w1 o1 cap1,zc r g o1 cap1 ts w1→zb r w w1→Calls Tryz.prog 178 #[.pointer (some ⟨r,0,none⟩),.func (.func 74) #[.pointer (some ⟨r,0,none⟩)] #[]] w1 (y3 r g w1 res)) (h:zc r g o cap (t::ts) w) (hE:zj (t::ts)) (hk1:t.k≠1) (hk2:t.k≠2) (hk3:t.k≠3) (hiT:zp t [116,114,117,101]=false) (hiF:zp t [102,97,108,115,101]=false) (hiN:zp t [110,101,119]=false) :
  Calls Tryz.prog 168 #[.pointer (some ⟨r,0,none⟩)] w (zk r g w (y9 t res)):=by
 generalize hres:y9 t res=R;have aM:∀(fn:Fn) (first cap:Array Value) (w:World),(Instr.makeFunc fn first cap).run Tryz.prog w=.ok (.func fn first cap) w:=fun _ _ _ _=>rfl
 have hr:=h.lt.1;have aD:=h.lt.2;have h0:=h.alloc zD;have ch:=Zd r g o cap t ts _ h0;obtain ⟨w2,O⟩:∃w2,w2=((w.alloc zD).alloc (zH t)).alloc (zH t):=⟨_,rfl⟩;have h2:zc r g o cap (t::ts) w2:=by rw [O];exact (h0.alloc _).alloc _
 have k2:zb r w w2:=by rw [O];exact (((zb.refl r w).alloc _).alloc _).alloc _
 have n0:w2.heap[w.heap.size]?=some zD:=by
  rw [O,Below.heap_alloc _ _ _ (by simp;omega),Below.heap_alloc _ _ _ (by simp)]
  exact World.alloc_heap_new _ _
 have n2:w2.heap[w.heap.size+1+1]?=some (zH t):=by
  have hx:=World.alloc_heap_new ((w.alloc zD).alloc (zH t)) (zH t);rw [←O,show ((w.alloc zD).alloc (zH t)).heap.size=w.heap.size+1+1 by simp] at hx
  exact hx
 have az:w.heap.size+1+1<w2.heap.size:=(Array.getElem?_eq_some_iff.1 n2).1;have ar:Hid (w2=((w.alloc zD).alloc (zH t)).alloc (zH t)):=O;have X:Hid (zb r w w2):=k2;have aB:Hid (w2.heap[w.heap.size]?=some zD):=n0;have aA:Hid (w2.heap[w.heap.size+1+1]?=some (zH t)):=n2;have aH:¬(t.k:Int)=1:=by omega
 have aF:¬(t.k:Int)=2:=by omega
 have aG:¬(t.k:Int)=3:=by omega
 clear h h0 O k2 n0 n2
 go_enter Tryz.func168,Tryz.ntmps168
 go_wp2_with fail
 refine ch.mono ?_;clear ch;rintro e w1 ⟨rfl,rfl⟩;simp only [xq];have ah:Hid (zb r w2 w2):=zb.refl r w2;have af:Hid (zc r g o cap (t::ts) w2):=h2;clear h2;have J:=Zb r g o cap t ts [116,114,117,101] w2 af.out (fun hi=>(hE.tail (zf hi)).ne)
 rw [hiT] at J;go_wp2_with fail
 rw [←ar.out];refine J.mono ?_;clear J;rintro e w3 ⟨rfl,y,z⟩;have ab:Hid (zb r w2 w3):=ah.out.trans y;have ae:Hid (zc r g o cap (t::ts) w3):=show zc _ _ _ _ _ _ by simpa using z
 clear y z ah af;clear ar;have J:=Zb r g o cap t ts [102,97,108,115,101] w3 ae.out (fun hi=>(hE.tail (zf hi)).ne)
 rw [hiF] at J;go_wp2_with fail
 refine J.mono ?_;clear J;rintro e w4 ⟨rfl,y,z⟩;have ai:Hid (zb r w2 w4):=ab.out.trans y;have ag:Hid (zc r g o cap (t::ts) w4):=show zc _ _ _ _ _ _ by simpa using z
 clear y z ab ae;have J:=Zb r g o cap t ts [110,101,119] w4 ag.out (fun hi=>(hE.tail (zf hi)).ne)
 rw [hiN] at J;go_wp2_with fail
 refine J.mono ?_;clear J;rintro e w5 ⟨rfl,y,z⟩;have ad:Hid (zb r w2 w5):=ai.out.trans y;have aj:Hid (zc r g o cap (t::ts) w5):=show zc _ _ _ _ _ _ by simpa using z
 clear y z ai ag;have J:=Zb r g o cap t ts [91] w5 aj.out (fun hi=>(hE.tail (zf hi)).ne)
 rw [hi] at J;go_wp2_with fail
 refine J.mono ?_;clear J;rintro e w6 ⟨rfl,y,z⟩;have U:zb r w2 w6:=ad.out.trans y;have ao:zc r g (o+5) (cap-1) ts w6:=by simpa using z
 have aE:=hE.tail (zf hi);obtain ⟨t6,T,rfl⟩:=aE.cons;have p2:=(U.block _ az (by omega)).trans aA.out
 obtain ⟨-,-,-,c3,-,-⟩:=zt p2;have aK:=ze c3;have aN:=U.size;have am:Hid (zb r w2 w6):=U;have aI:Hid (w6.heap[w.heap.size+1+1]?=some (zH t)):=p2
 have cb:∀W:World,zb r w6 W→zc r g (o+5) (cap-1) (t6::T) W→Calls Tryz.prog 178 #[.pointer (some ⟨r,0,none⟩),.func (.func 74) #[.pointer (some ⟨r,0,none⟩)] #[]] W fun e w'=>zb r W w'∧y3 r g W res e w':=fun W hK hR =>
  (hex W _ _ hR (X.out.trans (am.out.trans hK))).mono fun e w' h=>⟨h.1,h⟩
 have Y:Hid (zc r g (o+5) (cap-1) (t6::T) w6):=ao;clear hex y z U ao p2 ad aj;rcases res with a | ⟨l,us⟩
 ·obtain rfl:R=.error a:=by rw [←hres];unfold y9;rfl
  have N:∀W:World,zb r w6 W→zc r g (o+5) (cap-1) (t6::T) W→Calls Tryz.prog 178 #[.pointer (some ⟨r,0,none⟩),.func (.func 74) #[.pointer (some ⟨r,0,none⟩)] #[]] W fun e w'=>e=Zn a∧zb r w w':=fun W hK hR=>(cb W hK hR).mono fun e w' h=>⟨h.2.2,X.out.trans (am.out.trans (hK.trans h.1))⟩
  clear cb;go_wp2_with fail
  go_region_dies
  all_goals
   go_wp2_with fail
   refine (N _ ?_ ?_).mono ?_
   ·first | exact zb.drew r w6 | exact ((zb.refl r w6).alloc _).trans (zb.drew _ _)
   ·first | exact Y.out.keep rfl rfl | exact (Y.out.alloc _).keep rfl rfl
   ·rintro e w4 ⟨rfl,M⟩;exact ⟨rfl,M,rfl⟩
 ·have av:=hEnd l us rfl
  obtain ⟨t3,I,rfl⟩:=av.cons
  have N:∀W:World,zb r w6 W→zc r g (o+5) (cap-1) (t6::T) W→Calls Tryz.prog 178 #[.pointer (some ⟨r,0,none⟩),.func (.func 74) #[.pointer (some ⟨r,0,none⟩)] #[]] W fun e w'=>∃(H:Option Addr) (G d2:Nat),e=.returned (.slice H G d2)∧w'.cell? ⟨w.heap.size+1+1,3,none⟩=some (.int .i64 t.line)∧W.heap.size≤w'.heap.size∧(W.heap[w6.heap.size]?=some zD→w'.heap[w6.heap.size]?=some zD) ∧
    Hid (zb r w2 W∧zb r W w'∧Zr W.heap.size w' l (.slice H G d2)∧∃o cap,zc r g o cap (t3::I) w'):=fun W hK hR=>(cb W hK hR).mono fun e w' h=>by
   obtain ⟨M,-,v,o4,aw,rfl,E,Z⟩:=h
   obtain ⟨H,G,d2,rfl⟩:∃H G d2,v=.slice H G d2:=by
    rcases E with ⟨-,rfl⟩ | ⟨_,_,_,rfl,_⟩
    ·exact ⟨_,_,_,rfl⟩
    ·exact ⟨_,_,_,rfl⟩
   refine ⟨H,G,d2,rfl,M.cell (p:=⟨w.heap.size+1+1,3,none⟩) (by simp;omega) (hK.cell (p:=⟨w.heap.size+1+1,3,none⟩) (by simp;omega) c3),M.size,fun hz=>?_,am.out.trans hK,M,E,o4,aw,Z⟩
   exact (M.block _ (Array.getElem?_eq_some_iff.1 hz).1 (by omega)).trans hz
  clear cb;go_wp2_with fail
  go_cut [5] (fun v wx=>ZE r g w2 l (t3::I) (.int .i64 10) (.string ⟨#[]⟩) (.int .i64 0) (.int .i64 t.line) v wx)
  case first =>
   go_region_held3 (fun W=>W.cell? ⟨w.heap.size+1+1,3,none⟩=some (.int .i64 t.line)) (first | go_keep | exact yr _ _ _ _ _ (by omega) m3 | exact yr _ _ _ _ _ (by omega) (ay _)) (first | (go_at_call 178;refine (N _ (by first | exact zb.drew r w6 | exact ((zb.refl r w6).alloc _).trans (zb.drew _ _)) (by first | exact Y.out.keep rfl rfl | exact (Y.out.alloc _).keep rfl rfl)).mono ?_;rintro e' w7 ⟨H,G,d2,rfl,m3,aJ,an,H7⟩;have ay:=ze m3;first | (have p6:=an (World.alloc_heap_new w6 _);obtain ⟨q0,q1,q2,q3,q4,qf⟩:=zt p6) | skip))
   all_goals (obtain ⟨Q,V,D,K⟩:=H7.out)
   all_goals first
    | (have HN:Hid (ZE r g w2 l (t3::I) (.int .i64 10) (.string ⟨#[]⟩) (.int .i64 0) (.int .i64 t.line) (.pointer (some ⟨w6.heap.size,0,none⟩)) (set5 w7 w6.heap.size (.int .i64 10) (.string ⟨#[]⟩) (.int .i64 0) (.slice H G d2) (.int .i64 t.line))):=ZE.set _ _ _ _ Q V D K (by omega) (by omega) (by omega) (by simp) p6
       clear N H7 Q V D K an;go_wp2_with fail
       go_meet
       exact HN.out)
    | (have HN:Hid (ZE r g w2 l (t3::I) (.int .i64 10) (.string ⟨#[]⟩) (.int .i64 0) (.int .i64 t.line) (.pointer (some ⟨w7.heap.size,0,none⟩)) (w7.alloc (.cells #[.int .i64 10,.string ⟨#[]⟩,.int .i64 0,.slice H G d2,.int .i64 t.line] 90))):=ZE.alloc _ _ _ _ Q V D K
       clear N H7 Q V D K an;go_wp2_with fail
       go_meet
       exact HN.out)
  case rest =>
   obtain ⟨P,H,G,d2,rfl,hP,E,⟨o3,aq,Z⟩,hk,aL⟩:=hcut;have hs:w2.heap.size≤wc.heap.size:=hk.size;have au:P<wc.heap.size:=(Array.getElem?_eq_some_iff.1 hP).1;have cn:=Yo r g o3 aq t3 I [93] wc Z (fun hi=>(av.tail (zf hi)).ne)
   have ap:Hid (zb r w2 wc):=hk;have aC:Hid (wc.heap[P]?=some (.cells #[.int .i64 10,.string ⟨#[]⟩,.int .i64 0,.slice H G d2,.int .i64 t.line] 90 (0,0))):=hP;have ax:Hid (zI (fun k=>w2.heap.size≤k∧k≠P) wc l (.slice H G d2)):=E
   clear hP E Z hk N
   by_cases hm:zp t3 [93]=true
   ·simp only [if_pos hm] at cn
    obtain rfl:R=.ok (.mk 10 [] 0 l t.line,I):=by rw [←hres];unfold y9;simp only [zG,hm,if_true,List.tail_cons]
    go_wp2_with fail
    refine cn.mono ?_;clear cn;rintro e ak ⟨A,rfl,aa⟩;have al:=ap.out.trans A;have p0:=(al.block _ (by omega) (by omega)).trans aB.out
    have pB:=(A.block _ au (by omega)).trans aC.out
    obtain ⟨e0,e1,e2,e3,e4,-⟩:=zt pB;obtain ⟨q0,q1,q2,q3,q4,qf⟩:=zt p0;obtain ⟨z0,z1,z2,z3,z4⟩:=zq p0 (.int .i64 10) (.string ⟨#[]⟩) (.int .i64 0) (.slice H G d2) (.int .i64 t.line);have L:Zr w2.heap.size ak l (.slice H G d2):=zI.wide (zI.kept ax.out A.size fun k hk' hlt=>A.block k hlt (by omega)) fun k hk'=>hk'.1
    have HP:Hid (zk r g w (.ok (.mk 10 [] 0 l t.line,I)) (.returned (.agg #[.int .i64 10,.string ⟨#[]⟩,.int .i64 0,.slice H G d2,.int .i64 t.line])) (set5 ak w.heap.size (.int .i64 10) (.string ⟨#[]⟩) (.int .i64 0) (.slice H G d2) (.int .i64 t.line))) :=
     zk.of_set5 (B:=w2.heap.size) 10 [] 0 t.line (X.out.trans al) (Nat.le_refl _) hr aD L (by omega) aa
    clear al A aa p0 pB L;go_wp2
    exact bodyPost_ret (v:=.agg #[.int .i64 10,.string ⟨#[]⟩,.int .i64 0,.slice H G d2,.int .i64 t.line]) (by simp [results,Tryz.results168,go_sem,z0,z1,z2,z3,z4]) rfl HP.out
   ·simp only [if_neg hm] at cn
    obtain rfl:R=.error t3.at0:=by rw [←hres];unfold y9;simp only [zG,if_neg hm]
    go_wp2_with fail
    refine cn.mono ?_;clear cn;rintro e ak ⟨A,rfl⟩;exact ⟨rfl,X.out.trans (ap.out.trans A),rfl⟩
end Go.Proofs.YtmbofhpmockmbaaGreatDoor
