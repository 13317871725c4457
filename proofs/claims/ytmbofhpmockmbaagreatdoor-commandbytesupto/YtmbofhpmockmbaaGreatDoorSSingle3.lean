import Derived.Test.YtmbofhpmockmbaaGreatDoorMC22
import Derived.Deep.DeepCutAuto
import Derived.Deep.RegionHeld3
namespace Go.Proofs.YtmbofhpmockmbaaGreatDoor
open Go.RowKit Go.Shelf
set_option maxHeartbeats 16000000
set_option maxRecDepth 100000
theorem zb.drew (r:Nat) (w:World):zb r w w.drew:=⟨rfl,rfl,rfl,Nat.le_refl _,fun _ _ _=>rfl⟩
def ZE (r g:Nat) (w2:World) (l:List Ex) (us:List Tk) (x0 x1 x2 x4:Value) (v:Value) (wx:World):Prop :=
 ∃(P:Nat) (d0:Option Addr) (d1 d2:Nat),v=.pointer (some ⟨P,0,none⟩)∧wx.heap[P]?=some (.cells #[x0,x1,x2,.slice d0 d1 d2,x4] 90 (0,0))∧zI (fun k=>w2.heap.size≤k∧k≠P) wx l (.slice d0 d1 d2)∧(∃o cap,zc r g o cap us wx)∧zb r w2 wx∧w2.heap.size≤P
theorem zI.low {S:Nat→Prop} {w:World} {l:List Ex} {v:Value} (h:zI S w l v):zI (fun k=>S k∧k<w.heap.size) w l v:=by
 rcases h with h | ⟨g,z,K,J,A,y,H,D,I,E,o,e,G⟩
 ·exact .inl h
 ·exact .inr ⟨g,z,K,J,A,y,⟨H,D⟩,D,I,E,o,e,fun j x c hx hc'=>zB.low (G j x c hx hc')⟩
theorem ZE.alloc {r g:Nat} {w2 W w7:World} {l:List Ex} {t:Tk} {us:List Tk} {d0:Option Addr} {d1 d2:Nat} (x0 x1 x2 x4:Value) (hW:zb r w2 W) (hk:zb r W w7) (hrow:Zr W.heap.size w7 l (.slice d0 d1 d2)) (y:∃o e,zc r g o e (t::us) w7) :
  ZE r g w2 l (t::us) x0 x1 x2 x4 (.pointer (some ⟨w7.heap.size,0,none⟩)) (w7.alloc (.cells #[x0,x1,x2,.slice d0 d1 d2,x4] 90)):=by
 obtain ⟨o,e,y⟩:=y;have A:=hW.size;have z:=hk.size;refine ⟨w7.heap.size,d0,d1,d2,rfl,World.alloc_heap_new _ _,?_,⟨o,e,y.alloc _⟩,(hW.trans hk).alloc _,by omega⟩
 exact zI.wide (zI.kept (zI.low hrow) (by simp) fun k hk' _=>Below.heap_alloc _ _ _ hk'.2) fun k hk'=>⟨by omega,by omega⟩
theorem ZE.set {r g P:Nat} {w2 W w7:World} {l:List Ex} {t:Tk} {us:List Tk} {d0:Option Addr} {d1 d2:Nat} (x0 x1 x2 x4:Value) (hW:zb r w2 W) (hk:zb r W w7) (hrow:Zr W.heap.size w7 l (.slice d0 d1 d2)) (y:∃o e,zc r g o e (t::us) w7)
  (hr:r<w2.heap.size) (hg:g<w2.heap.size) (hP:w2.heap.size≤P) (hPW:P<W.heap.size) (hb:w7.heap[P]?=some zD) :
  ZE r g w2 l (t::us) x0 x1 x2 x4 (.pointer (some ⟨P,0,none⟩)) (set5 w7 P x0 x1 x2 (.slice d0 d1 d2) x4):=by
 obtain ⟨o,e,y⟩:=y;refine ⟨P,d0,d1,d2,rfl,yC hb _ _ _ _ _,?_,⟨o,e,y.keep (zi _ _ _ _ _ _ _ (by omega)) (zi _ _ _ _ _ _ _ (by omega))⟩,Zx (hW.trans hk) hP _ _ _ _ _,hP⟩
 exact zI.wide (zI.kept hrow (w':=set5 w7 P x0 x1 x2 (.slice d0 d1 d2) x4) (by simp) fun k hk' _=>zi _ _ _ _ _ _ _ (by omega)) fun k hk'=>⟨by have:=hW.size;omega,by omega⟩
def y9 (t:Tk) (res:PR (List Ex)):PR Ex :=
 match res with
 | .error a=>.error a
 | .ok (l,us)=>if zp (zM us) [93]=true then .ok (.mk 10 [] 0 l t.line,us.tail) else .error (zM us).at0
theorem xB (r g o cap:Nat) (t:Tk) (ts:List Tk) (w:World) (res:PR (List Ex)) (hi:zp t [91]=true) (hEnd:∀l us,res=.ok (l,us)→zj us) (hex:∀w1 o1 cap1,zc r g o1 cap1 ts w1→zb r w w1→Calls Tryz.prog 178 #[.pointer (some ⟨r,0,none⟩),.func (.func 74) #[.pointer (some ⟨r,0,none⟩)] #[]] w1 (y3 r g w1 res)) (h:zc r g o cap (t::ts) w) (hE:zj (t::ts)) (hk1:t.k≠1) (hk2:t.k≠2) (hk3:t.k≠3) (hiT:zp t [116,114,117,101]=false) (hiF:zp t [102,97,108,115,101]=false) (hiN:zp t [110,101,119]=false) :
  Calls Tryz.prog 168 #[.pointer (some ⟨r,0,none⟩)] w (zk r g w (y9 t res)):=by
 generalize hres:y9 t res=R;have aL:∀(fn:Fn) (first cap:Array Value) (w:World),(Instr.makeFunc fn first cap).run Tryz.prog w=.ok (.func fn first cap) w:=fun _ _ _ _=>rfl
 have hr:=h.lt.1;have aC:=h.lt.2;have h0:=h.alloc zD;have ch:=Zd r g o cap t ts _ h0;obtain ⟨w2,O⟩:∃w2,w2=((w.alloc zD).alloc (zH t)).alloc (zH t):=⟨_,rfl⟩;have h2:zc r g o cap (t::ts) w2:=by rw [O];exact (h0.alloc _).alloc _
 have k2:zb r w w2:=by rw [O];exact (((zb.refl r w).alloc _).alloc _).alloc _
 have n0:w2.heap[w.heap.size]?=some zD:=by
  rw [O,Below.heap_alloc _ _ _ (by simp;omega),Below.heap_alloc _ _ _ (by simp)]
  exact World.alloc_heap_new _ _
 have n2:w2.heap[w.heap.size+1+1]?=some (zH t):=by
  have hx:=World.alloc_heap_new ((w.alloc zD).alloc (zH t)) (zH t);rw [←O,show ((w.alloc zD).alloc (zH t)).heap.size=w.heap.size+1+1 by simp] at hx
  exact hx
 have aE:w.heap.size+1+1<w2.heap.size:=(Array.getElem?_eq_some_iff.1 n2).1;have ax:Hid (w2=((w.alloc zD).alloc (zH t)).alloc (zH t)):=O;have T:Hid (zb r w w2):=k2;have ay:Hid (w2.heap[w.heap.size]?=some zD):=n0;have aB:Hid (w2.heap[w.heap.size+1+1]?=some (zH t)):=n2;have aG:¬(t.k:Int)=1:=by omega
 have aF:¬(t.k:Int)=2:=by omega
 have aH:¬(t.k:Int)=3:=by omega
 clear h h0 O k2 n0 n2
 go_enter Tryz.func168,Tryz.ntmps168
 go_wp2_with fail
 refine ch.mono ?_;clear ch;rintro e w1 ⟨rfl,rfl⟩;simp only [xq];have aa:Hid (zb r w2 w2):=zb.refl r w2;have ai:Hid (zc r g o cap (t::ts) w2):=h2;clear h2;have I:=Zb r g o cap t ts [116,114,117,101] w2 ai.out (fun hi=>(hE.tail (zf hi)).ne)
 rw [hiT] at I;go_wp2_with fail
 rw [←ax.out];refine I.mono ?_;clear I;rintro e w3 ⟨rfl,A,y⟩;have aj:Hid (zb r w2 w3):=aa.out.trans A;have ag:Hid (zc r g o cap (t::ts) w3):=show zc _ _ _ _ _ _ by simpa using y
 clear A y aa ai;clear ax;have I:=Zb r g o cap t ts [102,97,108,115,101] w3 ag.out (fun hi=>(hE.tail (zf hi)).ne)
 rw [hiF] at I;go_wp2_with fail
 refine I.mono ?_;clear I;rintro e w4 ⟨rfl,A,y⟩;have ad:Hid (zb r w2 w4):=aj.out.trans A;have ae:Hid (zc r g o cap (t::ts) w4):=show zc _ _ _ _ _ _ by simpa using y
 clear A y aj ag;have I:=Zb r g o cap t ts [110,101,119] w4 ae.out (fun hi=>(hE.tail (zf hi)).ne)
 rw [hiN] at I;go_wp2_with fail
 refine I.mono ?_;clear I;rintro e w5 ⟨rfl,A,y⟩;have af:Hid (zb r w2 w5):=ad.out.trans A;have ab:Hid (zc r g o cap (t::ts) w5):=show zc _ _ _ _ _ _ by simpa using y
 clear A y ad ae;have I:=Zb r g o cap t ts [91] w5 ab.out (fun hi=>(hE.tail (zf hi)).ne)
 rw [hi] at I;go_wp2_with fail
 refine I.mono ?_;clear I;rintro e w6 ⟨rfl,A,y⟩;have Y:zb r w2 w6:=af.out.trans A;have au:zc r g (o+5) (cap-1) ts w6:=by simpa using y
 have az:=hE.tail (zf hi);obtain ⟨t6,U,rfl⟩:=az.cons;have p2:=(Y.block _ aE (by omega)).trans aB.out
 obtain ⟨-,-,-,c3,-,-⟩:=zt p2;have aM:=ze c3;have aK:=Y.size;have am:Hid (zb r w2 w6):=Y;have aN:Hid (w6.heap[w.heap.size+1+1]?=some (zH t)):=p2
 have cb:∀W:World,zb r w6 W→zc r g (o+5) (cap-1) (t6::U) W→Calls Tryz.prog 178 #[.pointer (some ⟨r,0,none⟩),.func (.func 74) #[.pointer (some ⟨r,0,none⟩)] #[]] W fun e w'=>zb r W w'∧y3 r g W res e w':=fun W hK hR =>
  (hex W _ _ hR (T.out.trans (am.out.trans hK))).mono fun e w' h=>⟨h.1,h⟩
 have Q:Hid (zc r g (o+5) (cap-1) (t6::U) w6):=au;clear hex A y Y au p2 af ab;rcases res with a | ⟨l,us⟩
 ·obtain rfl:R=.error a:=by rw [←hres];unfold y9;rfl
  have M:∀W:World,zb r w6 W→zc r g (o+5) (cap-1) (t6::U) W→Calls Tryz.prog 178 #[.pointer (some ⟨r,0,none⟩),.func (.func 74) #[.pointer (some ⟨r,0,none⟩)] #[]] W fun e w'=>e=Zn a∧zb r w w':=fun W hK hR=>(cb W hK hR).mono fun e w' h=>⟨h.2.2,T.out.trans (am.out.trans (hK.trans h.1))⟩
  clear cb;go_wp2_with fail
  go_region_dies
  all_goals
   go_wp2_with fail
   refine (M _ ?_ ?_).mono ?_
   ·first | exact zb.drew r w6 | exact ((zb.refl r w6).alloc _).trans (zb.drew _ _)
   ·first | exact Q.out.keep rfl rfl | exact (Q.out.alloc _).keep rfl rfl
   ·rintro e w4 ⟨rfl,N⟩;exact ⟨rfl,N,rfl⟩
 ·have ao:=hEnd l us rfl
  obtain ⟨t3,J,rfl⟩:=ao.cons
  have M:∀W:World,zb r w6 W→zc r g (o+5) (cap-1) (t6::U) W→Calls Tryz.prog 178 #[.pointer (some ⟨r,0,none⟩),.func (.func 74) #[.pointer (some ⟨r,0,none⟩)] #[]] W fun e w'=>∃(G:Option Addr) (H d2:Nat),e=.returned (.slice G H d2)∧w'.cell? ⟨w.heap.size+1+1,3,none⟩=some (.int .i64 t.line)∧W.heap.size≤w'.heap.size∧(W.heap[w6.heap.size]?=some zD→w'.heap[w6.heap.size]?=some zD) ∧
    Hid (zb r w2 W∧zb r W w'∧Zr W.heap.size w' l (.slice G H d2)∧∃o cap,zc r g o cap (t3::J) w'):=fun W hK hR=>(cb W hK hR).mono fun e w' h=>by
   obtain ⟨N,-,v,o4,av,rfl,E,V⟩:=h
   obtain ⟨G,H,d2,rfl⟩:∃G H d2,v=.slice G H d2:=by
    rcases E with ⟨-,rfl⟩ | ⟨_,_,_,rfl,_⟩
    ·exact ⟨_,_,_,rfl⟩
    ·exact ⟨_,_,_,rfl⟩
   refine ⟨G,H,d2,rfl,N.cell (p:=⟨w.heap.size+1+1,3,none⟩) (by simp;omega) (hK.cell (p:=⟨w.heap.size+1+1,3,none⟩) (by simp;omega) c3),N.size,fun hz=>?_,am.out.trans hK,N,E,o4,av,V⟩
   exact (N.block _ (Array.getElem?_eq_some_iff.1 hz).1 (by omega)).trans hz
  clear cb;go_wp2_with fail
  go_cut [5] (fun v wx=>ZE r g w2 l (t3::J) (.int .i64 10) (.string ⟨#[]⟩) (.int .i64 0) (.int .i64 t.line) v wx)
  case first =>
   go_region_held3 (fun W=>W.cell? ⟨w.heap.size+1+1,3,none⟩=some (.int .i64 t.line)) (first | go_keep | exact yr _ _ _ _ _ (by omega) m3 | exact yr _ _ _ _ _ (by omega) (aA _)) (first | (go_at_call 178;refine (M _ (by first | exact zb.drew r w6 | exact ((zb.refl r w6).alloc _).trans (zb.drew _ _)) (by first | exact Q.out.keep rfl rfl | exact (Q.out.alloc _).keep rfl rfl)).mono ?_;rintro e' w7 ⟨G,H,d2,rfl,m3,aI,ak,H7⟩;have aA:=ze m3;first | (have p6:=ak (World.alloc_heap_new w6 _);obtain ⟨q0,q1,q2,q3,q4,qf⟩:=zt p6) | skip))
   all_goals (obtain ⟨X,Z,D,K⟩:=H7.out)
   all_goals first
    | (have HN:Hid (ZE r g w2 l (t3::J) (.int .i64 10) (.string ⟨#[]⟩) (.int .i64 0) (.int .i64 t.line) (.pointer (some ⟨w6.heap.size,0,none⟩)) (set5 w7 w6.heap.size (.int .i64 10) (.string ⟨#[]⟩) (.int .i64 0) (.slice G H d2) (.int .i64 t.line))):=ZE.set _ _ _ _ X Z D K (by omega) (by omega) (by omega) (by simp) p6
       clear M H7 X Z D K ak;go_wp2_with fail
       go_meet
       exact HN.out)
    | (have HN:Hid (ZE r g w2 l (t3::J) (.int .i64 10) (.string ⟨#[]⟩) (.int .i64 0) (.int .i64 t.line) (.pointer (some ⟨w7.heap.size,0,none⟩)) (w7.alloc (.cells #[.int .i64 10,.string ⟨#[]⟩,.int .i64 0,.slice G H d2,.int .i64 t.line] 90))):=ZE.alloc _ _ _ _ X Z D K
       clear M H7 X Z D K ak;go_wp2_with fail
       go_meet
       exact HN.out)
  case rest =>
   obtain ⟨P,G,H,d2,rfl,hP,E,⟨o3,aw,V⟩,hk,aJ⟩:=hcut;have hs:w2.heap.size≤wc.heap.size:=hk.size;have ap:P<wc.heap.size:=(Array.getElem?_eq_some_iff.1 hP).1;have cn:=Yo r g o3 aw t3 J [93] wc V (fun hi=>(ao.tail (zf hi)).ne)
   have aq:Hid (zb r w2 wc):=hk;have aD:Hid (wc.heap[P]?=some (.cells #[.int .i64 10,.string ⟨#[]⟩,.int .i64 0,.slice G H d2,.int .i64 t.line] 90 (0,0))):=hP;have ar:Hid (zI (fun k=>w2.heap.size≤k∧k≠P) wc l (.slice G H d2)):=E
   clear hP E V hk M
   by_cases hm:zp t3 [93]=true
   ·simp only [if_pos hm] at cn
    obtain rfl:R=.ok (.mk 10 [] 0 l t.line,J):=by rw [←hres];unfold y9;simp only [zG,hm,if_true,List.tail_cons]
    go_wp2_with fail
    refine cn.mono ?_;clear cn;rintro e an ⟨z,rfl,ah⟩;have al:=aq.out.trans z;have p0:=(al.block _ (by omega) (by omega)).trans ay.out
    have pB:=(z.block _ ap (by omega)).trans aD.out
    obtain ⟨e0,e1,e2,e3,e4,-⟩:=zt pB;obtain ⟨q0,q1,q2,q3,q4,qf⟩:=zt p0;obtain ⟨z0,z1,z2,z3,z4⟩:=zq p0 (.int .i64 10) (.string ⟨#[]⟩) (.int .i64 0) (.slice G H d2) (.int .i64 t.line);have L:Zr w2.heap.size an l (.slice G H d2):=zI.wide (zI.kept ar.out z.size fun k hk' hlt=>z.block k hlt (by omega)) fun k hk'=>hk'.1
    have HP:Hid (zk r g w (.ok (.mk 10 [] 0 l t.line,J)) (.returned (.agg #[.int .i64 10,.string ⟨#[]⟩,.int .i64 0,.slice G H d2,.int .i64 t.line])) (set5 an w.heap.size (.int .i64 10) (.string ⟨#[]⟩) (.int .i64 0) (.slice G H d2) (.int .i64 t.line))) :=
     zk.of_set5 (B:=w2.heap.size) 10 [] 0 t.line (T.out.trans al) (Nat.le_refl _) hr aC L (by omega) ah
    clear al z ah p0 pB L;go_wp2
    exact bodyPost_ret (v:=.agg #[.int .i64 10,.string ⟨#[]⟩,.int .i64 0,.slice G H d2,.int .i64 t.line]) (by simp [results,Tryz.results168,go_sem,z0,z1,z2,z3,z4]) rfl HP.out
   ·simp only [if_neg hm] at cn
    obtain rfl:R=.error t3.at0:=by rw [←hres];unfold y9;simp only [zG,if_neg hm]
    go_wp2_with fail
    refine cn.mono ?_;clear cn;rintro e an ⟨z,rfl⟩;exact ⟨rfl,T.out.trans (aq.out.trans z),rfl⟩
end Go.Proofs.YtmbofhpmockmbaaGreatDoor
