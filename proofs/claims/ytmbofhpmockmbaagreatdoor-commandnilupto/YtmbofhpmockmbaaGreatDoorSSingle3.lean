import Derived.Test.YtmbofhpmockmbaaGreatDoorMC22
import Derived.Deep.DeepCutAuto
import Derived.Deep.RegionHeld3
namespace Go.Proofs.YtmbofhpmockmbaaGreatDoor
open Go.RowKit Go.Shelf
set_option maxHeartbeats 16000000
set_option maxRecDepth 100000
theorem zb.drew (r:Nat) (w:World):zb r w w.drew:=⟨rfl,rfl,rfl,Nat.le_refl _,fun _ _ _=>rfl⟩
def Zz (r g:Nat) (w2:World) (l:List Ex) (us:List Tk) (x0 x1 x2 x4:Value) (v:Value) (wx:World):Prop :=
 ∃(P:Nat) (d0:Option Addr) (d1 d2:Nat),v=.pointer (some ⟨P,0,none⟩)∧wx.heap[P]?=some (.cells #[x0,x1,x2,.slice d0 d1 d2,x4] 90 (0,0))∧zG (fun k=>w2.heap.size≤k∧k≠P) wx l (.slice d0 d1 d2)∧(∃o cap,zc r g o cap us wx)∧zb r w2 wx∧w2.heap.size≤P
theorem zG.low {S:Nat→Prop} {w:World} {l:List Ex} {v:Value} (h:zG S w l v):zG (fun k=>S k∧k<w.heap.size) w l v:=by
 rcases h with h | ⟨g,D,G,H,A,z,I,E,L,K,o,y,J⟩
 ·exact .inl h
 ·exact .inr ⟨g,D,G,H,A,z,⟨I,E⟩,E,L,K,o,y,fun j x c hx hc'=>zA.low (J j x c hx hc')⟩
theorem Zz.alloc {r g:Nat} {w2 W w7:World} {l:List Ex} {t:Tk} {us:List Tk} {d0:Option Addr} {d1 d2:Nat} (x0 x1 x2 x4:Value) (hW:zb r w2 W) (hk:zb r W w7) (hrow:Zn W.heap.size w7 l (.slice d0 d1 d2)) (y:∃o z,zc r g o z (t::us) w7) :
  Zz r g w2 l (t::us) x0 x1 x2 x4 (.pointer (some ⟨w7.heap.size,0,none⟩)) (w7.alloc (.cells #[x0,x1,x2,.slice d0 d1 d2,x4] 90)):=by
 obtain ⟨o,z,y⟩:=y;have D:=hW.size;have A:=hk.size;refine ⟨w7.heap.size,d0,d1,d2,rfl,World.alloc_heap_new _ _,?_,⟨o,z,y.alloc _⟩,(hW.trans hk).alloc _,by omega⟩
 exact zG.wide (zG.kept (zG.low hrow) (by simp) fun k hk' _=>Below.heap_alloc _ _ _ hk'.2) fun k hk'=>⟨by omega,by omega⟩
theorem Zz.set {r g P:Nat} {w2 W w7:World} {l:List Ex} {t:Tk} {us:List Tk} {d0:Option Addr} {d1 d2:Nat} (x0 x1 x2 x4:Value) (hW:zb r w2 W) (hk:zb r W w7) (hrow:Zn W.heap.size w7 l (.slice d0 d1 d2)) (z:∃o y,zc r g o y (t::us) w7)
  (hr:r<w2.heap.size) (hg:g<w2.heap.size) (hP:w2.heap.size≤P) (hPW:P<W.heap.size) (hb:w7.heap[P]?=some zC) :
  Zz r g w2 l (t::us) x0 x1 x2 x4 (.pointer (some ⟨P,0,none⟩)) (set5 w7 P x0 x1 x2 (.slice d0 d1 d2) x4):=by
 obtain ⟨o,y,z⟩:=z;refine ⟨P,d0,d1,d2,rfl,yr hb _ _ _ _ _,?_,⟨o,y,z.keep (zh _ _ _ _ _ _ _ (by omega)) (zh _ _ _ _ _ _ _ (by omega))⟩,Zu (hW.trans hk) hP _ _ _ _ _,hP⟩
 exact zG.wide (zG.kept hrow (w':=set5 w7 P x0 x1 x2 (.slice d0 d1 d2) x4) (by simp) fun k hk' _=>zh _ _ _ _ _ _ _ (by omega)) fun k hk'=>⟨by have:=hW.size;omega,by omega⟩
def yS (t:Tk) (res:PR (List Ex)):PR Ex :=
 match res with
 | .error a=>.error a
 | .ok (l,us)=>if zp (zK us) [93]=true then .ok (.mk 10 [] 0 l t.line,us.tail) else .error (zK us).at0
theorem xf (r g o cap:Nat) (t:Tk) (ts:List Tk) (w:World) (res:PR (List Ex)) (hi:zp t [91]=true) (hEnd:∀l us,res=.ok (l,us)→zi us) (hex:∀w1 o1 cap1,zc r g o1 cap1 ts w1→zb r w w1→Calls Tryz.prog 178 #[.pointer (some ⟨r,0,none⟩),.func (.func 74) #[.pointer (some ⟨r,0,none⟩)] #[]] w1 (yN r g w1 res)) (h:zc r g o cap (t::ts) w) (hE:zi (t::ts)) (hk1:t.k≠1) (hk2:t.k≠2) (hk3:t.k≠3) (hiT:zp t [116,114,117,101]=false) (hiF:zp t [102,97,108,115,101]=false) (hiN:zp t [110,101,119]=false) :
  Calls Tryz.prog 168 #[.pointer (some ⟨r,0,none⟩)] w (zj r g w (yS t res)):=by
 generalize hres:yS t res=R;have aM:∀(fn:Fn) (first cap:Array Value) (w:World),(Instr.makeFunc fn first cap).run Tryz.prog w=.ok (.func fn first cap) w:=fun _ _ _ _=>rfl
 have hr:=h.lt.1;have aD:=h.lt.2;have h0:=h.alloc zC;have ch:=z8 r g o cap t ts _ h0;obtain ⟨w2,N⟩:∃w2,w2=((w.alloc zC).alloc (zF t)).alloc (zF t):=⟨_,rfl⟩;have h2:zc r g o cap (t::ts) w2:=by rw [N];exact (h0.alloc _).alloc _
 have k2:zb r w w2:=by rw [N];exact (((zb.refl r w).alloc _).alloc _).alloc _
 have n0:w2.heap[w.heap.size]?=some zC:=by
  rw [N,Below.heap_alloc _ _ _ (by simp;omega),Below.heap_alloc _ _ _ (by simp)]
  exact World.alloc_heap_new _ _
 have n2:w2.heap[w.heap.size+1+1]?=some (zF t):=by
  have hx:=World.alloc_heap_new ((w.alloc zC).alloc (zF t)) (zF t);rw [←N,show ((w.alloc zC).alloc (zF t)).heap.size=w.heap.size+1+1 by simp] at hx
  exact hx
 have aC:w.heap.size+1+1<w2.heap.size:=(Array.getElem?_eq_some_iff.1 n2).1;have au:Hid (w2=((w.alloc zC).alloc (zF t)).alloc (zF t)):=N;have V:Hid (zb r w w2):=k2;have aA:Hid (w2.heap[w.heap.size]?=some zC):=n0;have ay:Hid (w2.heap[w.heap.size+1+1]?=some (zF t)):=n2;have aG:¬(t.k:Int)=1:=by omega
 have aF:¬(t.k:Int)=2:=by omega
 have aE:¬(t.k:Int)=3:=by omega
 clear h h0 N k2 n0 n2
 go_enter Tryz.func168,Tryz.ntmps168
 go_wp2_with fail
 refine ch.mono ?_;clear ch;rintro e w1 ⟨rfl,rfl⟩;simp only [Y2];have ag:Hid (zb r w2 w2):=zb.refl r w2;have aa:Hid (zc r g o cap (t::ts) w2):=h2;clear h2;have J:=z6 r g o cap t ts [116,114,117,101] w2 aa.out (fun hi=>(hE.tail (zg hi)).ne)
 rw [hiT] at J;go_wp2_with fail
 rw [←au.out];refine J.mono ?_;clear J;rintro e w3 ⟨rfl,z,y⟩;have ab:Hid (zb r w2 w3):=ag.out.trans z;have ai:Hid (zc r g o cap (t::ts) w3):=show zc _ _ _ _ _ _ by simpa using y
 clear z y ag aa;clear au;have J:=z6 r g o cap t ts [102,97,108,115,101] w3 ai.out (fun hi=>(hE.tail (zg hi)).ne)
 rw [hiF] at J;go_wp2_with fail
 refine J.mono ?_;clear J;rintro e w4 ⟨rfl,z,y⟩;have ah:Hid (zb r w2 w4):=ab.out.trans z;have ad:Hid (zc r g o cap (t::ts) w4):=show zc _ _ _ _ _ _ by simpa using y
 clear z y ab ai;have J:=z6 r g o cap t ts [110,101,119] w4 ad.out (fun hi=>(hE.tail (zg hi)).ne)
 rw [hiN] at J;go_wp2_with fail
 refine J.mono ?_;clear J;rintro e w5 ⟨rfl,z,y⟩;have af:Hid (zb r w2 w5):=ah.out.trans z;have Z:Hid (zc r g o cap (t::ts) w5):=show zc _ _ _ _ _ _ by simpa using y
 clear z y ah ad;have J:=z6 r g o cap t ts [91] w5 Z.out (fun hi=>(hE.tail (zg hi)).ne)
 rw [hi] at J;go_wp2_with fail
 refine J.mono ?_;clear J;rintro e w6 ⟨rfl,z,y⟩;have S:zb r w2 w6:=af.out.trans z;have ao:zc r g (o+5) (cap-1) ts w6:=by simpa using y
 have aB:=hE.tail (zg hi);obtain ⟨t6,Y,rfl⟩:=aB.cons;have p2:=(S.block _ aC (by omega)).trans ay.out
 obtain ⟨-,-,-,c3,-,-⟩:=zs p2;have aL:=ze c3;have aJ:=S.size;have al:Hid (zb r w2 w6):=S;have aI:Hid (w6.heap[w.heap.size+1+1]?=some (zF t)):=p2
 have cb:∀W:World,zb r w6 W→zc r g (o+5) (cap-1) (t6::Y) W→Calls Tryz.prog 178 #[.pointer (some ⟨r,0,none⟩),.func (.func 74) #[.pointer (some ⟨r,0,none⟩)] #[]] W fun e w'=>zb r W w'∧yN r g W res e w':=fun W hK hR =>
  (hex W _ _ hR (V.out.trans (al.out.trans hK))).mono fun e w' h=>⟨h.1,h⟩
 have T:Hid (zc r g (o+5) (cap-1) (t6::Y) w6):=ao;clear hex z y S ao p2 af Z;rcases res with a | ⟨l,us⟩
 ·obtain rfl:R=.error a:=by rw [←hres];unfold yS;rfl
  have M:∀W:World,zb r w6 W→zc r g (o+5) (cap-1) (t6::Y) W→Calls Tryz.prog 178 #[.pointer (some ⟨r,0,none⟩),.func (.func 74) #[.pointer (some ⟨r,0,none⟩)] #[]] W fun e w'=>e=Zj a∧zb r w w':=fun W hK hR=>(cb W hK hR).mono fun e w' h=>⟨h.2.2,V.out.trans (al.out.trans (hK.trans h.1))⟩
  clear cb;go_wp2_with fail
  go_region_dies
  all_goals
   go_wp2_with fail
   refine (M _ ?_ ?_).mono ?_
   ·first | exact zb.drew r w6 | exact ((zb.refl r w6).alloc _).trans (zb.drew _ _)
   ·first | exact T.out.keep rfl rfl | exact (T.out.alloc _).keep rfl rfl
   ·rintro e w4 ⟨rfl,O⟩;exact ⟨rfl,O,rfl⟩
 ·have av:=hEnd l us rfl
  obtain ⟨t3,I,rfl⟩:=av.cons
  have M:∀W:World,zb r w6 W→zc r g (o+5) (cap-1) (t6::Y) W→Calls Tryz.prog 178 #[.pointer (some ⟨r,0,none⟩),.func (.func 74) #[.pointer (some ⟨r,0,none⟩)] #[]] W fun e w'=>∃(G:Option Addr) (H d2:Nat),e=.returned (.slice G H d2)∧w'.cell? ⟨w.heap.size+1+1,3,none⟩=some (.int .i64 t.line)∧W.heap.size≤w'.heap.size∧(W.heap[w6.heap.size]?=some zC→w'.heap[w6.heap.size]?=some zC) ∧
    Hid (zb r w2 W∧zb r W w'∧Zn W.heap.size w' l (.slice G H d2)∧∃o cap,zc r g o cap (t3::I) w'):=fun W hK hR=>(cb W hK hR).mono fun e w' h=>by
   obtain ⟨O,-,v,o4,ap,rfl,E,X⟩:=h
   obtain ⟨G,H,d2,rfl⟩:∃G H d2,v=.slice G H d2:=by
    rcases E with ⟨-,rfl⟩ | ⟨_,_,_,rfl,_⟩
    ·exact ⟨_,_,_,rfl⟩
    ·exact ⟨_,_,_,rfl⟩
   refine ⟨G,H,d2,rfl,O.cell (p:=⟨w.heap.size+1+1,3,none⟩) (by simp;omega) (hK.cell (p:=⟨w.heap.size+1+1,3,none⟩) (by simp;omega) c3),O.size,fun hz=>?_,al.out.trans hK,O,E,o4,ap,X⟩
   exact (O.block _ (Array.getElem?_eq_some_iff.1 hz).1 (by omega)).trans hz
  clear cb;go_wp2_with fail
  go_cut [5] (fun v wx=>Zz r g w2 l (t3::I) (.int .i64 10) (.string ⟨#[]⟩) (.int .i64 0) (.int .i64 t.line) v wx)
  case first =>
   go_region_held3 (fun W=>W.cell? ⟨w.heap.size+1+1,3,none⟩=some (.int .i64 t.line)) (first | go_keep | exact yh _ _ _ _ _ (by omega) m3 | exact yh _ _ _ _ _ (by omega) (az _)) (first | (go_at_call 178;refine (M _ (by first | exact zb.drew r w6 | exact ((zb.refl r w6).alloc _).trans (zb.drew _ _)) (by first | exact T.out.keep rfl rfl | exact (T.out.alloc _).keep rfl rfl)).mono ?_;rintro e' w7 ⟨G,H,d2,rfl,m3,aK,ak,H7⟩;have az:=ze m3;first | (have p6:=ak (World.alloc_heap_new w6 _);obtain ⟨q0,q1,q2,q3,q4,qf⟩:=zs p6) | skip))
   all_goals (obtain ⟨Q,U,D,K⟩:=H7.out)
   all_goals first
    | (have HN:Hid (Zz r g w2 l (t3::I) (.int .i64 10) (.string ⟨#[]⟩) (.int .i64 0) (.int .i64 t.line) (.pointer (some ⟨w6.heap.size,0,none⟩)) (set5 w7 w6.heap.size (.int .i64 10) (.string ⟨#[]⟩) (.int .i64 0) (.slice G H d2) (.int .i64 t.line))):=Zz.set _ _ _ _ Q U D K (by omega) (by omega) (by omega) (by simp) p6
       clear M H7 Q U D K ak;go_wp2_with fail
       go_meet
       exact HN.out)
    | (have HN:Hid (Zz r g w2 l (t3::I) (.int .i64 10) (.string ⟨#[]⟩) (.int .i64 0) (.int .i64 t.line) (.pointer (some ⟨w7.heap.size,0,none⟩)) (w7.alloc (.cells #[.int .i64 10,.string ⟨#[]⟩,.int .i64 0,.slice G H d2,.int .i64 t.line] 90))):=Zz.alloc _ _ _ _ Q U D K
       clear M H7 Q U D K ak;go_wp2_with fail
       go_meet
       exact HN.out)
  case rest =>
   obtain ⟨P,G,H,d2,rfl,hP,E,⟨o3,aq,X⟩,hk,aH⟩:=hcut;have hs:w2.heap.size≤wc.heap.size:=hk.size;have ar:P<wc.heap.size:=(Array.getElem?_eq_some_iff.1 hP).1;have cn:=y6 r g o3 aq t3 I [93] wc X (fun hi=>(av.tail (zg hi)).ne)
   have an:Hid (zb r w2 wc):=hk;have ax:Hid (wc.heap[P]?=some (.cells #[.int .i64 10,.string ⟨#[]⟩,.int .i64 0,.slice G H d2,.int .i64 t.line] 90 (0,0))):=hP;have aw:Hid (zG (fun k=>w2.heap.size≤k∧k≠P) wc l (.slice G H d2)):=E
   clear hP E X hk M
   by_cases hm:zp t3 [93]=true
   ·simp only [if_pos hm] at cn
    obtain rfl:R=.ok (.mk 10 [] 0 l t.line,I):=by rw [←hres];unfold yS;simp only [zE,hm,if_true,List.tail_cons]
    go_wp2_with fail
    refine cn.mono ?_;clear cn;rintro e aj ⟨A,rfl,ae⟩;have am:=an.out.trans A;have p0:=(am.block _ (by omega) (by omega)).trans aA.out
    have pB:=(A.block _ ar (by omega)).trans ax.out
    obtain ⟨e0,e1,e2,e3,e4,-⟩:=zs pB;obtain ⟨q0,q1,q2,q3,q4,qf⟩:=zs p0;obtain ⟨z0,z1,z2,z3,z4⟩:=zq p0 (.int .i64 10) (.string ⟨#[]⟩) (.int .i64 0) (.slice G H d2) (.int .i64 t.line);have L:Zn w2.heap.size aj l (.slice G H d2):=zG.wide (zG.kept aw.out A.size fun k hk' hlt=>A.block k hlt (by omega)) fun k hk'=>hk'.1
    have HP:Hid (zj r g w (.ok (.mk 10 [] 0 l t.line,I)) (.returned (.agg #[.int .i64 10,.string ⟨#[]⟩,.int .i64 0,.slice G H d2,.int .i64 t.line])) (set5 aj w.heap.size (.int .i64 10) (.string ⟨#[]⟩) (.int .i64 0) (.slice G H d2) (.int .i64 t.line))) :=
     zj.of_set5 (B:=w2.heap.size) 10 [] 0 t.line (V.out.trans am) (Nat.le_refl _) hr aD L (by omega) ae
    clear am A ae p0 pB L;go_wp2
    exact bodyPost_ret (v:=.agg #[.int .i64 10,.string ⟨#[]⟩,.int .i64 0,.slice G H d2,.int .i64 t.line]) (by simp [results,Tryz.results168,go_sem,z0,z1,z2,z3,z4]) rfl HP.out
   ·simp only [if_neg hm] at cn
    obtain rfl:R=.error t3.at0:=by rw [←hres];unfold yS;simp only [zE,if_neg hm]
    go_wp2_with fail
    refine cn.mono ?_;clear cn;rintro e aj ⟨A,rfl⟩;exact ⟨rfl,V.out.trans (an.out.trans A),rfl⟩
end Go.Proofs.YtmbofhpmockmbaaGreatDoor
