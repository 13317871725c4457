import Derived.Test.YtmbofhpmockmbaaGreatDoorMC15
import Derived.Deep.DeepCutAuto
import Derived.Deep.RegionHeld3
namespace Go.Proofs.YtmbofhpmockmbaaGreatDoor
open Go.RowKit Go.Shelf
set_option maxHeartbeats 16000000
set_option maxRecDepth 100000
theorem zb.drew (r:Nat) (w:World):zb r w w.drew:=⟨rfl,rfl,rfl,Nat.le_refl _,fun _ _ _=>rfl⟩
def yd (r g:Nat) (w2:World) (l:List Ex) (us:List Tk) (x0 x1 x2 x4:Value) (v:Value) (wx:World):Prop :=
 ∃(P:Nat) (d0:Option Addr) (d1 d2:Nat),v=.pointer (some ⟨P,0,none⟩)∧wx.heap[P]?=some (.cells #[x0,x1,x2,.slice d0 d1 d2,x4] 90 (0,0))∧zI (fun k=>w2.heap.size≤k∧k≠P) wx l (.slice d0 d1 d2)∧(∃o cap,zj r g o cap us wx)∧zb r w2 wx∧w2.heap.size≤P
theorem zI.low {S:Nat→Prop} {w:World} {l:List Ex} {v:Value} (h:zI S w l v):zI (fun k=>S k∧k<w.heap.size) w l v:=by
 rcases h with h | ⟨g,z,K,H,A,y,G,D,E,J,e,o,I⟩
 ·exact .inl h
 ·exact .inr ⟨g,z,K,H,A,y,⟨G,D⟩,D,E,J,e,o,fun j x c hx hc'=>zH.low (I j x c hx hc')⟩
theorem yd.alloc {r g:Nat} {w2 W w7:World} {l:List Ex} {t:Tk} {us:List Tk} {d0:Option Addr} {d1 d2:Nat} (x0 x1 x2 x4:Value) (hW:zb r w2 W) (hk:zb r W w7) (hrow:Zr W.heap.size w7 l (.slice d0 d1 d2)) (h:∃o e,zj r g o e (t::us) w7) :
  yd r g w2 l (t::us) x0 x1 x2 x4 (.pointer (some ⟨w7.heap.size,0,none⟩)) (w7.alloc (.cells #[x0,x1,x2,.slice d0 d1 d2,x4] 90)):=by
 obtain ⟨o,e,h⟩:=h;have z:=hW.size;have y:=hk.size;refine ⟨w7.heap.size,d0,d1,d2,rfl,World.alloc_heap_new _ _,?_,⟨o,e,h.alloc _⟩,(hW.trans hk).alloc _,by omega⟩
 exact zI.wide (zI.kept (zI.low hrow) (by simp) fun k hk' _=>Below.heap_alloc _ _ _ hk'.2) fun k hk'=>⟨by omega,by omega⟩
theorem yd.set {r g P:Nat} {w2 W w7:World} {l:List Ex} {t:Tk} {us:List Tk} {d0:Option Addr} {d1 d2:Nat} (x0 x1 x2 x4:Value) (hW:zb r w2 W) (hk:zb r W w7) (hrow:Zr W.heap.size w7 l (.slice d0 d1 d2)) (e:∃o h,zj r g o h (t::us) w7)
  (hr:r<w2.heap.size) (hg:g<w2.heap.size) (hP:w2.heap.size≤P) (hPW:P<W.heap.size) (hb:w7.heap[P]?=some zJ) :
  yd r g w2 l (t::us) x0 x1 x2 x4 (.pointer (some ⟨P,0,none⟩)) (set5 w7 P x0 x1 x2 (.slice d0 d1 d2) x4):=by
 obtain ⟨o,h,e⟩:=e;refine ⟨P,d0,d1,d2,rfl,Z5 hb _ _ _ _ _,?_,⟨o,h,e.keep (zh _ _ _ _ _ _ _ (by omega)) (zh _ _ _ _ _ _ _ (by omega))⟩,Zo (hW.trans hk) hP _ _ _ _ _,hP⟩
 exact zI.wide (zI.kept hrow (w':=set5 w7 P x0 x1 x2 (.slice d0 d1 d2) x4) (by simp) fun k hk' _=>zh _ _ _ _ _ _ _ (by omega)) fun k hk'=>⟨by have:=hW.size;omega,by omega⟩
def xo (t:Tk) (res:PR (List Ex)):PR Ex :=
 match res with
 | .error a=>.error a
 | .ok (l,us)=>if zk (zu us) [93]=true then .ok (.mk 10 [] 0 l t.line,us.tail) else .error (zu us).at0
theorem vu (r g o cap:Nat) (t:Tk) (ts:List Tk) (w:World) (res:PR (List Ex)) (hi:zk t [91]=true) (hEnd:∀l us,res=.ok (l,us)→zq us) (hex:∀w1 o1 cap1,zj r g o1 cap1 ts w1→zb r w w1→Calls Tryz.prog 178 #[.pointer (some ⟨r,0,none⟩),.func (.func 74) #[.pointer (some ⟨r,0,none⟩)] #[]] w1 (Y7 r g w1 res)) (h:zj r g o cap (t::ts) w) (hE:zq (t::ts)) (hk1:t.k≠1) (hk2:t.k≠2) (hk3:t.k≠3) (hiT:zk t [116,114,117,101]=false) (hiF:zk t [102,97,108,115,101]=false) (hiN:zk t [110,101,119]=false) :
  Calls Tryz.prog 168 #[.pointer (some ⟨r,0,none⟩)] w (zr r g w (xo t res)):=by
 generalize hres:xo t res=R;have aJ:∀(fn:Fn) (first cap:Array Value) (w:World),(Instr.makeFunc fn first cap).run Tryz.prog w=.ok (.func fn first cap) w:=fun _ _ _ _=>rfl
 have hr:=h.lt.1;have aC:=h.lt.2;have h0:=h.alloc zJ;have ch:=ZD r g o cap t ts _ h0;obtain ⟨w2,O⟩:∃w2,w2=((w.alloc zJ).alloc (Zc t)).alloc (Zc t):=⟨_,rfl⟩;have h2:zj r g o cap (t::ts) w2:=by rw [O];exact (h0.alloc _).alloc _
 have k2:zb r w w2:=by rw [O];exact (((zb.refl r w).alloc _).alloc _).alloc _
 have n0:w2.heap[w.heap.size]?=some zJ:=by
  rw [O,Below.heap_alloc _ _ _ (by simp;omega),Below.heap_alloc _ _ _ (by simp)]
  exact World.alloc_heap_new _ _
 have n2:w2.heap[w.heap.size+1+1]?=some (Zc t):=by
  have hx:=World.alloc_heap_new ((w.alloc zJ).alloc (Zc t)) (Zc t);rw [←O,show ((w.alloc zJ).alloc (Zc t)).heap.size=w.heap.size+1+1 by simp] at hx
  exact hx
 have az:w.heap.size+1+1<w2.heap.size:=(Array.getElem?_eq_some_iff.1 n2).1;have au:Hid (w2=((w.alloc zJ).alloc (Zc t)).alloc (Zc t)):=O;have V:Hid (zb r w w2):=k2;have aE:Hid (w2.heap[w.heap.size]?=some zJ):=n0;have ay:Hid (w2.heap[w.heap.size+1+1]?=some (Zc t)):=n2;have aG:¬(t.k:Int)=1:=by omega
 have aH:¬(t.k:Int)=2:=by omega
 have aF:¬(t.k:Int)=3:=by omega
 clear h h0 O k2 n0 n2
 go_enter Tryz.func168,Tryz.ntmps168
 go_wp2_with fail
 refine ch.mono ?_;clear ch;rintro e w1 ⟨rfl,rfl⟩;simp only [YH];have ab:Hid (zb r w2 w2):=zb.refl r w2;have ah:Hid (zj r g o cap (t::ts) w2):=h2;clear h2;have I:=ZA r g o cap t ts [116,114,117,101] w2 ah.out (fun hi=>(hE.tail (zm hi)).ne)
 rw [hiT] at I;go_wp2_with fail
 rw [←au.out];refine I.mono ?_;clear I;rintro e w3 ⟨rfl,z,y⟩;have ai:Hid (zb r w2 w3):=ab.out.trans z;have aj:Hid (zj r g o cap (t::ts) w3):=show zj _ _ _ _ _ _ by simpa using y
 clear z y ab ah;clear au;have I:=ZA r g o cap t ts [102,97,108,115,101] w3 aj.out (fun hi=>(hE.tail (zm hi)).ne)
 rw [hiF] at I;go_wp2_with fail
 refine I.mono ?_;clear I;rintro e w4 ⟨rfl,z,y⟩;have ae:Hid (zb r w2 w4):=ai.out.trans z;have ad:Hid (zj r g o cap (t::ts) w4):=show zj _ _ _ _ _ _ by simpa using y
 clear z y ai aj;have I:=ZA r g o cap t ts [110,101,119] w4 ad.out (fun hi=>(hE.tail (zm hi)).ne)
 rw [hiN] at I;go_wp2_with fail
 refine I.mono ?_;clear I;rintro e w5 ⟨rfl,z,y⟩;have af:Hid (zb r w2 w5):=ae.out.trans z;have ag:Hid (zj r g o cap (t::ts) w5):=show zj _ _ _ _ _ _ by simpa using y
 clear z y ae ad;have I:=ZA r g o cap t ts [91] w5 ag.out (fun hi=>(hE.tail (zm hi)).ne)
 rw [hi] at I;go_wp2_with fail
 refine I.mono ?_;clear I;rintro e w6 ⟨rfl,z,y⟩;have Y:zb r w2 w6:=af.out.trans z;have aw:zj r g (o+5) (cap-1) ts w6:=by simpa using y
 have aB:=hE.tail (zm hi);obtain ⟨t6,T,rfl⟩:=aB.cons;have p2:=(Y.block _ az (by omega)).trans ay.out
 obtain ⟨-,-,-,c3,-,-⟩:=zd p2;have aI:=zc c3;have aM:=Y.size;have am:Hid (zb r w2 w6):=Y;have aK:Hid (w6.heap[w.heap.size+1+1]?=some (Zc t)):=p2
 have cb:∀W:World,zb r w6 W→zj r g (o+5) (cap-1) (t6::T) W→Calls Tryz.prog 178 #[.pointer (some ⟨r,0,none⟩),.func (.func 74) #[.pointer (some ⟨r,0,none⟩)] #[]] W fun e w'=>zb r W w'∧Y7 r g W res e w':=fun W hK hR =>
  (hex W _ _ hR (V.out.trans (am.out.trans hK))).mono fun e w' h=>⟨h.1,h⟩
 have U:Hid (zj r g (o+5) (cap-1) (t6::T) w6):=aw;clear hex z y Y aw p2 af ag;rcases res with a | ⟨l,us⟩
 ·obtain rfl:R=.error a:=by rw [←hres];unfold xo;rfl
  have M:∀W:World,zb r w6 W→zj r g (o+5) (cap-1) (t6::T) W→Calls Tryz.prog 178 #[.pointer (some ⟨r,0,none⟩),.func (.func 74) #[.pointer (some ⟨r,0,none⟩)] #[]] W fun e w'=>e=ZQ a∧zb r w w':=fun W hK hR=>(cb W hK hR).mono fun e w' h=>⟨h.2.2,V.out.trans (am.out.trans (hK.trans h.1))⟩
  clear cb;go_wp2_with fail
  go_region_dies
  all_goals
   go_wp2_with fail
   refine (M _ ?_ ?_).mono ?_
   ·first | exact zb.drew r w6 | exact ((zb.refl r w6).alloc _).trans (zb.drew _ _)
   ·first | exact U.out.keep rfl rfl | exact (U.out.alloc _).keep rfl rfl
   ·rintro e w4 ⟨rfl,N⟩;exact ⟨rfl,N,rfl⟩
 ·have aq:=hEnd l us rfl
  obtain ⟨t3,J,rfl⟩:=aq.cons
  have M:∀W:World,zb r w6 W→zj r g (o+5) (cap-1) (t6::T) W→Calls Tryz.prog 178 #[.pointer (some ⟨r,0,none⟩),.func (.func 74) #[.pointer (some ⟨r,0,none⟩)] #[]] W fun e w'=>∃(E:Option Addr) (G d2:Nat),e=.returned (.slice E G d2)∧w'.cell? ⟨w.heap.size+1+1,3,none⟩=some (.int .i64 t.line)∧W.heap.size≤w'.heap.size∧(W.heap[w6.heap.size]?=some zJ→w'.heap[w6.heap.size]?=some zJ) ∧
    Hid (zb r w2 W∧zb r W w'∧Zr W.heap.size w' l (.slice E G d2)∧∃o cap,zj r g o cap (t3::J) w'):=fun W hK hR=>(cb W hK hR).mono fun e w' h=>by
   obtain ⟨N,-,v,o4,ap,rfl,H,X⟩:=h
   obtain ⟨E,G,d2,rfl⟩:∃E G d2,v=.slice E G d2:=by
    rcases H with ⟨-,rfl⟩ | ⟨_,_,_,rfl,_⟩
    ·exact ⟨_,_,_,rfl⟩
    ·exact ⟨_,_,_,rfl⟩
   refine ⟨E,G,d2,rfl,N.cell (p:=⟨w.heap.size+1+1,3,none⟩) (by simp;omega) (hK.cell (p:=⟨w.heap.size+1+1,3,none⟩) (by simp;omega) c3),N.size,fun hz=>?_,am.out.trans hK,N,H,o4,ap,X⟩
   exact (N.block _ (Array.getElem?_eq_some_iff.1 hz).1 (by omega)).trans hz
  clear cb;go_wp2_with fail
  go_cut [5] (fun v wx=>yd r g w2 l (t3::J) (.int .i64 10) (.string ⟨#[]⟩) (.int .i64 0) (.int .i64 t.line) v wx)
  case first =>
   go_region_held3 (fun W=>W.cell? ⟨w.heap.size+1+1,3,none⟩=some (.int .i64 t.line)) (first | go_keep | exact Yn _ _ _ _ _ (by omega) m3 | exact Yn _ _ _ _ _ (by omega) (aD _)) (first | (go_at_call 178;refine (M _ (by first | exact zb.drew r w6 | exact ((zb.refl r w6).alloc _).trans (zb.drew _ _)) (by first | exact U.out.keep rfl rfl | exact (U.out.alloc _).keep rfl rfl)).mono ?_;rintro e' w7 ⟨E,G,d2,rfl,m3,aN,ak,H7⟩;have aD:=zc m3;first | (have p6:=ak (World.alloc_heap_new w6 _);obtain ⟨q0,q1,q2,q3,q4,qf⟩:=zd p6) | skip))
   all_goals (obtain ⟨Q,Z,D,L⟩:=H7.out)
   all_goals first
    | (have HN:Hid (yd r g w2 l (t3::J) (.int .i64 10) (.string ⟨#[]⟩) (.int .i64 0) (.int .i64 t.line) (.pointer (some ⟨w6.heap.size,0,none⟩)) (set5 w7 w6.heap.size (.int .i64 10) (.string ⟨#[]⟩) (.int .i64 0) (.slice E G d2) (.int .i64 t.line))):=yd.set _ _ _ _ Q Z D L (by omega) (by omega) (by omega) (by simp) p6
       clear M H7 Q Z D L ak;go_wp2_with fail
       go_meet
       exact HN.out)
    | (have HN:Hid (yd r g w2 l (t3::J) (.int .i64 10) (.string ⟨#[]⟩) (.int .i64 0) (.int .i64 t.line) (.pointer (some ⟨w7.heap.size,0,none⟩)) (w7.alloc (.cells #[.int .i64 10,.string ⟨#[]⟩,.int .i64 0,.slice E G d2,.int .i64 t.line] 90))):=yd.alloc _ _ _ _ Q Z D L
       clear M H7 Q Z D L ak;go_wp2_with fail
       go_meet
       exact HN.out)
  case rest =>
   obtain ⟨P,E,G,d2,rfl,hP,H,⟨o3,ao,X⟩,hk,aL⟩:=hcut;have hs:w2.heap.size≤wc.heap.size:=hk.size;have ax:P<wc.heap.size:=(Array.getElem?_eq_some_iff.1 hP).1;have cn:=xL r g o3 ao t3 J [93] wc X (fun hi=>(aq.tail (zm hi)).ne)
   have ar:Hid (zb r w2 wc):=hk;have aA:Hid (wc.heap[P]?=some (.cells #[.int .i64 10,.string ⟨#[]⟩,.int .i64 0,.slice E G d2,.int .i64 t.line] 90 (0,0))):=hP;have av:Hid (zI (fun k=>w2.heap.size≤k∧k≠P) wc l (.slice E G d2)):=H
   clear hP H X hk M
   by_cases hm:zk t3 [93]=true
   ·simp only [if_pos hm] at cn
    obtain rfl:R=.ok (.mk 10 [] 0 l t.line,J):=by rw [←hres];unfold xo;simp only [zX,hm,if_true,List.tail_cons]
    go_wp2_with fail
    refine cn.mono ?_;clear cn;rintro e al ⟨A,rfl,aa⟩;have an:=ar.out.trans A;have p0:=(an.block _ (by omega) (by omega)).trans aE.out
    have pB:=(A.block _ ax (by omega)).trans aA.out
    obtain ⟨e0,e1,e2,e3,e4,-⟩:=zd pB;obtain ⟨q0,q1,q2,q3,q4,qf⟩:=zd p0;obtain ⟨z0,z1,z2,z3,z4⟩:=zi p0 (.int .i64 10) (.string ⟨#[]⟩) (.int .i64 0) (.slice E G d2) (.int .i64 t.line);have K:Zr w2.heap.size al l (.slice E G d2):=zI.wide (zI.kept av.out A.size fun k hk' hlt=>A.block k hlt (by omega)) fun k hk'=>hk'.1
    have HP:Hid (zr r g w (.ok (.mk 10 [] 0 l t.line,J)) (.returned (.agg #[.int .i64 10,.string ⟨#[]⟩,.int .i64 0,.slice E G d2,.int .i64 t.line])) (set5 al w.heap.size (.int .i64 10) (.string ⟨#[]⟩) (.int .i64 0) (.slice E G d2) (.int .i64 t.line))) :=
     zr.of_set5 (B:=w2.heap.size) 10 [] 0 t.line (V.out.trans an) (Nat.le_refl _) hr aC K (by omega) aa
    clear an A aa p0 pB K;go_wp2
    exact bodyPost_ret (v:=.agg #[.int .i64 10,.string ⟨#[]⟩,.int .i64 0,.slice E G d2,.int .i64 t.line]) (by simp [results,Tryz.results168,go_sem,z0,z1,z2,z3,z4]) rfl HP.out
   ·simp only [if_neg hm] at cn
    obtain rfl:R=.error t3.at0:=by rw [←hres];unfold xo;simp only [zX,if_neg hm]
    go_wp2_with fail
    refine cn.mono ?_;clear cn;rintro e al ⟨A,rfl⟩;exact ⟨rfl,V.out.trans (ar.out.trans A),rfl⟩
def Vv (t t6:Tk) (res:PR (List Ex)):PR Ex :=
 if t6.k=1 then
  match res with
  | .error a=>.error a
  | .ok (l,us)=>.ok (.mk 11 t6.s 0 l t.line,us)
 else .error t6.at0
theorem x9 (r g o cap:Nat) (t t6:Tk) (ts6:List Tk) (w:World) (res:PR (List Ex)) (hi:zk t [110,101,119]=true) (hbr:t6.k=1→∀V o1 cap1,zj r g o1 cap1 ts6 V→zb r w V→Calls Tryz.prog 177 #[.pointer (some ⟨r,0,none⟩),.func (.func 74) #[.pointer (some ⟨r,0,none⟩)] #[]] V (Y7 r g V res)) (h:zj r g o cap (t::t6::ts6) w) (hE:zq (t::t6::ts6)) (hk1:t.k≠1) (hk2:t.k≠2) (hk3:t.k≠3) (hiT:zk t [116,114,117,101]=false) (hiF:zk t [102,97,108,115,101]=false) :
  Calls Tryz.prog 168 #[.pointer (some ⟨r,0,none⟩)] w (zr r g w (Vv t t6 res)):=by
 generalize hres:Vv t t6 res=R;have aO:∀(fn:Fn) (first cap:Array Value) (w:World),(Instr.makeFunc fn first cap).run Tryz.prog w=.ok (.func fn first cap) w:=fun _ _ _ _=>rfl
 obtain ⟨ts,av⟩:∃ts,ts=t6::ts6:=⟨_,rfl⟩;rw [←av] at h hE;have hr:=h.lt.1;have aF:=h.lt.2;have h0:=h.alloc zJ;have ch:=ZD r g o cap t ts _ h0;obtain ⟨w2,O⟩:∃w2,w2=((w.alloc zJ).alloc (Zc t)).alloc (Zc t):=⟨_,rfl⟩;have h2:zj r g o cap (t::ts) w2:=by rw [O];exact (h0.alloc _).alloc _
 have k2:zb r w w2:=by rw [O];exact (((zb.refl r w).alloc _).alloc _).alloc _
 have n0:w2.heap[w.heap.size]?=some zJ:=by
  rw [O,Below.heap_alloc _ _ _ (by simp;omega),Below.heap_alloc _ _ _ (by simp)]
  exact World.alloc_heap_new _ _
 have n2:w2.heap[w.heap.size+1+1]?=some (Zc t):=by
  have hx:=World.alloc_heap_new ((w.alloc zJ).alloc (Zc t)) (Zc t);rw [←O,show ((w.alloc zJ).alloc (Zc t)).heap.size=w.heap.size+1+1 by simp] at hx
  exact hx
 have az:w.heap.size+1+1<w2.heap.size:=(Array.getElem?_eq_some_iff.1 n2).1;have ap:Hid (w2=((w.alloc zJ).alloc (Zc t)).alloc (Zc t)):=O;have aa:Hid (zb r w w2):=k2;have aH:Hid (w2.heap[w.heap.size]?=some zJ):=n0;have ay:Hid (w2.heap[w.heap.size+1+1]?=some (Zc t)):=n2;have aL:¬(t.k:Int)=1:=by omega
 have aM:¬(t.k:Int)=2:=by omega
 have aK:¬(t.k:Int)=3:=by omega
 clear h h0 O k2 n0 n2
 go_enter Tryz.func168,Tryz.ntmps168
 go_wp2_with fail
 refine ch.mono ?_;clear ch;rintro e V ⟨rfl,rfl⟩;simp only [YH];have af:Hid (zb r w2 w2):=zb.refl r w2;have ai:Hid (zj r g o cap (t::ts) w2):=h2;clear h2;have T:=ZA r g o cap t ts [116,114,117,101] w2 ai.out (fun hi=>(hE.tail (zm hi)).ne)
 rw [hiT] at T;go_wp2_with fail
 rw [←ap.out];refine T.mono ?_;clear T;rintro e w3 ⟨rfl,H,E⟩;have ak:Hid (zb r w2 w3):=af.out.trans H;have al:Hid (zj r g o cap (t::ts) w3):=show zj _ _ _ _ _ _ by simpa using E
 clear H E af ai;clear ap;have T:=ZA r g o cap t ts [102,97,108,115,101] w3 al.out (fun hi=>(hE.tail (zm hi)).ne)
 rw [hiF] at T;go_wp2_with fail
 refine T.mono ?_;clear T;rintro e w4 ⟨rfl,H,E⟩;have ah:Hid (zb r w2 w4):=ak.out.trans H;have ag:Hid (zj r g o cap (t::ts) w4):=show zj _ _ _ _ _ _ by simpa using E
 clear H E ak al;have T:=ZA r g o cap t ts [110,101,119] w4 ag.out (fun hi=>(hE.tail (zm hi)).ne)
 rw [hi] at T;go_wp2_with fail
 refine T.mono ?_;clear T;rintro e w5 ⟨rfl,H,E⟩;have ab:zb r w2 w5:=ah.out.trans H;have ar:zj r g (o+5) (cap-1) ts w5:=by simpa using E
 have au:=hE.tail (zm hi);subst av;have p2:=(ab.block _ az (by omega)).trans ay.out
 obtain ⟨-,-,-,c3,-,-⟩:=zd p2;have aN:=zc c3;have aR:=ab.size;have aq:Hid (zb r w2 w5):=ab
 have cb:∀W:World,zb r w5 W→zj r g (o+5) (cap-1) (t6::ts6) W→Calls Tryz.prog 171 #[.pointer (some ⟨r,0,none⟩)] W fun e w'=>zb r W w'∧if t6.k=1 then e=.returned (.string (za t6.s))∧zj r g (o+5+5) (cap-1-1) ts6 w' else e=ZQ t6.at0:=fun W hK hR =>
  Vn r g _ _ t6 ts6 W hR (fun hk=>(au.tail (by omega)).ne)
 have Z:Hid (zj r g (o+5) (cap-1) (t6::ts6) w5):=ar;clear H E ab ar p2 ah ag
 by_cases h6:t6.k=1
 ·have aD:=au.tail (by omega:t6.k≠0)
  obtain ⟨t7,M,rfl⟩:=aD.cons
  have N:∀W:World,zb r w5 W→zj r g (o+5) (cap-1) (t6::t7::M) W→Calls Tryz.prog 171 #[.pointer (some ⟨r,0,none⟩)] W fun e w'=>e=.returned (.string (za t6.s))∧w'.cell? ⟨w.heap.size+1+1,3,none⟩=some (.int .i64 t.line)∧W.heap.size≤w'.heap.size∧(W.heap[w5.heap.size]?=some zJ→w'.heap[w5.heap.size]?=some zJ) ∧
    Hid (zb r w2 W∧zb r W w'∧zj r g (o+5+5) (cap-1-1) (t7::M) w'):=fun W hK hR=>(cb W hK hR).mono fun e w' h=>by
   obtain ⟨G,y⟩:=h;rw [if_pos h6] at y;obtain ⟨rfl,I⟩:=y;refine ⟨rfl,G.cell (p:=⟨w.heap.size+1+1,3,none⟩) (by simp;omega) (hK.cell (p:=⟨w.heap.size+1+1,3,none⟩) (by simp;omega) c3),G.size,fun hz=>?_,aq.out.trans hK,G,I⟩
   exact (G.block _ (Array.getElem?_eq_some_iff.1 hz).1 (by omega)).trans hz
  have an:Hid (∀V o1 cap1,zj r g o1 cap1 (t7::M) V→zb r w V→Calls Tryz.prog 177 #[.pointer (some ⟨r,0,none⟩),.func (.func 74) #[.pointer (some ⟨r,0,none⟩)] #[]] V (Y7 r g V res)):=hbr h6;clear cb hbr;go_wp2_with fail
  go_cut [4] (fun v wx=>yd r g w2 [] (t7::M) (.int .i64 11) (.string (za t6.s)) (.int .i64 0) (.int .i64 t.line) v wx)
  case first =>
   go_region_held3 (fun W=>W.cell? ⟨w.heap.size+1+1,3,none⟩=some (.int .i64 t.line)) (first | go_keep | exact Yn _ _ _ _ _ (by omega) m3 | exact Yn _ _ _ _ _ (by omega) (aG _)) (first | (go_at_call 171;refine (N _ (by first | exact zb.drew r w5 | exact ((zb.refl r w5).alloc _).trans (zb.drew _ _)) (by first | exact Z.out.keep rfl rfl | exact (Z.out.alloc _).keep rfl rfl)).mono ?_;rintro e' w7 ⟨rfl,m3,aS,am,H7⟩;have aG:=zc m3;first | (have p6:=am (World.alloc_heap_new w5 _);obtain ⟨q0,q1,q2,q3,q4,qf⟩:=zd p6) | skip))
   all_goals (obtain ⟨Y,ae,K⟩:=H7.out)
   all_goals first
    | (have HN:Hid (yd r g w2 [] (t7::M) (.int .i64 11) (.string (za t6.s)) (.int .i64 0) (.int .i64 t.line) (.pointer (some ⟨w5.heap.size,0,none⟩)) (set5 w7 w5.heap.size (.int .i64 11) (.string (za t6.s)) (.int .i64 0) (.slice none 0 0) (.int .i64 t.line))):=yd.set _ _ _ _ Y ae (.inl ⟨rfl,rfl⟩) ⟨_,_,K⟩ (by omega) (by omega) (by omega) (by simp) p6
       clear N H7 Y ae K am;go_wp2_with fail
       go_meet
       exact HN.out)
    | (have HN:Hid (yd r g w2 [] (t7::M) (.int .i64 11) (.string (za t6.s)) (.int .i64 0) (.int .i64 t.line) (.pointer (some ⟨w7.heap.size,0,none⟩)) (w7.alloc (.cells #[.int .i64 11,.string (za t6.s),.int .i64 0,.slice none 0 0,.int .i64 t.line] 90))):=yd.alloc _ _ _ _ Y ae (.inl ⟨rfl,rfl⟩) ⟨_,_,K⟩
       clear N H7 Y ae K am;go_wp2_with fail
       go_meet
       exact HN.out)
  case rest =>
   obtain ⟨P,d0,d1,d2,rfl,hP,D,⟨o3,aI,I⟩,hk,aQ⟩:=hcut
   obtain ⟨rfl,rfl,rfl⟩:d0=none∧d1=0∧d2=0:=by
    rcases D with ⟨-,hv⟩ | ⟨_,_,_,_,aE,_⟩
    ·cases hv;exact ⟨rfl,rfl,rfl⟩
    ·exact absurd rfl aE
   have hs:w2.heap.size≤wc.heap.size:=hk.size;have ax:P<wc.heap.size:=(Array.getElem?_eq_some_iff.1 hP).1;have cn:=an.out wc _ _ I (aa.out.trans hk);have aB:Hid (zb r w2 wc):=hk;have aA:Hid (wc.heap[P]?=some (.cells #[.int .i64 11,.string (za t6.s),.int .i64 0,.slice none 0 0,.int .i64 t.line] 90 (0,0))):=hP;clear hP D I hk N an;go_wp2_with fail
   refine cn.mono ?_;clear cn;rintro e ad ⟨L,y⟩;have U:Hid (zb r w2 ad):=aB.out.trans L;rcases res with a | ⟨l,us⟩
   ·obtain rfl:=y
    obtain rfl:R=.error a:=by rw [←hres];unfold Vv;rw [if_pos h6]
    exact ⟨rfl,aa.out.trans U.out,rfl⟩
   ·obtain ⟨v,o4,ao,rfl,D,I⟩:=y
    obtain rfl:R=.ok (.mk 11 t6.s 0 l t.line,us):=by rw [←hres];unfold Vv;rw [if_pos h6]
    obtain ⟨e0,X,e2,rfl⟩:∃e0 X e2,v=.slice e0 X e2:=by
     rcases D with ⟨-,rfl⟩ | ⟨_,_,_,rfl,_⟩
     ·exact ⟨_,_,_,rfl⟩
     ·exact ⟨_,_,_,rfl⟩
    have pB:=(L.block _ ax (by omega)).trans aA.out
    obtain ⟨-,-,-,g3,-,gf⟩:=zd pB;have aP:=gf 3;obtain ⟨w13,A⟩:∃w13,w13=ad.setCell ⟨P,3,none⟩ (.slice e0 X e2):=⟨_,rfl⟩;have aC:=A.symm;have z:∀k,k≠P→w13.heap[k]?=ad.heap[k]?:=fun k hk=>by rw [A];exact Below.heap_setCell _ _ _ _ (by simpa using hk)
    have pC:w13.heap[P]?=some (.cells #[.int .i64 11,.string (za t6.s),.int .i64 0,.slice e0 X e2,.int .i64 t.line] 90 (0,0)):=by rw [A];exact Zd _ pB
    have p0:=(z w.heap.size (by omega)).trans ((U.out.block _ (by omega) (by omega)).trans aH.out)
    have aJ:=L.size;have aw:ad.heap.size≤w13.heap.size:=by rw [A];simp
    have aj:zb r w w13:=by rw [A];exact (aa.out.trans U.out).setOther (by simp;omega) _
    have J:Zr wc.heap.size w13 l (.slice e0 X e2):=Zr.kept D aw fun k hB _=>z k (by omega)
    have Q:zj r g o4 ao us w13:=I.keep (z r (by omega)) (z g (by omega))
    obtain ⟨f0,f1,f2,f3,f4,-⟩:=zd pC;obtain ⟨q0,q1,q2,q3,q4,qf⟩:=zd p0;obtain ⟨z0,z1,z2,z3,z4⟩:=zi p0 (.int .i64 11) (.string (za t6.s)) (.int .i64 0) (.slice e0 X e2) (.int .i64 t.line)
    have HP:Hid (zr r g w (.ok (.mk 11 t6.s 0 l t.line,us)) (.returned (.agg #[.int .i64 11,.string (za t6.s),.int .i64 0,.slice e0 X e2,.int .i64 t.line])) (set5 w13 w.heap.size (.int .i64 11) (.string (za t6.s)) (.int .i64 0) (.slice e0 X e2) (.int .i64 t.line))) :=
     zr.of_set5 (B:=wc.heap.size) 11 t6.s 0 t.line aj (Nat.le_refl _) hr aF J (by omega) Q
    clear L p0 pB pC D I J Q aj z A gf;go_wp2
    exact bodyPost_ret (v:=.agg #[.int .i64 11,.string (za t6.s),.int .i64 0,.slice e0 X e2,.int .i64 t.line]) (by simp [results,Tryz.results168,go_sem,z0,z1,z2,z3,z4]) rfl HP.out
 ·obtain rfl:R=.error t6.at0:=by rw [←hres];unfold Vv;rw [if_neg h6]
  have N:∀W:World,zb r w5 W→zj r g (o+5) (cap-1) (t6::ts6) W→Calls Tryz.prog 171 #[.pointer (some ⟨r,0,none⟩)] W fun e w'=>e=ZQ t6.at0∧zb r w w':=fun W hK hR=>(cb W hK hR).mono fun e w' h=>by
   obtain ⟨G,y⟩:=h;rw [if_neg h6] at y;exact ⟨y,aa.out.trans (aq.out.trans (hK.trans G))⟩
  clear cb hbr;go_wp2_with fail
  go_region_dies
  all_goals
   go_wp2_with fail
   refine (N _ ?_ ?_).mono ?_
   ·first | exact zb.drew r w5 | exact ((zb.refl r w5).alloc _).trans (zb.drew _ _)
   ·first | exact Z.out.keep rfl rfl | exact (Z.out.alloc _).keep rfl rfl
   ·rintro e w4 ⟨rfl,G⟩;exact ⟨rfl,G,rfl⟩
end Go.Proofs.YtmbofhpmockmbaaGreatDoor
