import Derived.Test.YtmbofhpmockmbaaGreatDoorMC21
import Derived.Deep.DeepCutAuto
import Derived.Deep.RegionHeld3
namespace Go.Proofs.YtmbofhpmockmbaaGreatDoor
open Go.RowKit Go.Shelf
set_option maxHeartbeats 16000000
set_option maxRecDepth 100000
theorem zb.drew (r:Nat) (w:World):zb r w w.drew:=⟨rfl,rfl,rfl,Nat.le_refl _,fun _ _ _=>rfl⟩
def Zq (r g:Nat) (w2:World) (l:List Ex) (us:List Tk) (x0 x1 x2 x4:Value) (v:Value) (wx:World):Prop :=
 ∃(P:Nat) (d0:Option Addr) (d1 d2:Nat),v=.pointer (some ⟨P,0,none⟩)∧wx.heap[P]?=some (.cells #[x0,x1,x2,.slice d0 d1 d2,x4] 90 (0,0))∧zF (fun k=>w2.heap.size≤k∧k≠P) wx l (.slice d0 d1 d2)∧(∃o cap,zc r g o cap us wx)∧zb r w2 wx∧w2.heap.size≤P
theorem zF.low {S:Nat→Prop} {w:World} {l:List Ex} {v:Value} (h:zF S w l v):zF (fun k=>S k∧k<w.heap.size) w l v:=by
 rcases h with h | ⟨g,z,I,E,A,y,J,D,H,G,e,o,K⟩
 ·exact .inl h
 ·exact .inr ⟨g,z,I,E,A,y,⟨J,D⟩,D,H,G,e,o,fun j x c hx hc'=>zy.low (K j x c hx hc')⟩
theorem Zq.alloc {r g:Nat} {w2 W w7:World} {l:List Ex} {t:Tk} {us:List Tk} {d0:Option Addr} {d1 d2:Nat} (x0 x1 x2 x4:Value) (hW:zb r w2 W) (hk:zb r W w7) (hrow:Zg W.heap.size w7 l (.slice d0 d1 d2)) (e:∃o h,zc r g o h (t::us) w7) :
  Zq r g w2 l (t::us) x0 x1 x2 x4 (.pointer (some ⟨w7.heap.size,0,none⟩)) (w7.alloc (.cells #[x0,x1,x2,.slice d0 d1 d2,x4] 90)):=by
 obtain ⟨o,h,e⟩:=e;have y:=hW.size;have x:=hk.size;refine ⟨w7.heap.size,d0,d1,d2,rfl,World.alloc_heap_new _ _,?_,⟨o,h,e.alloc _⟩,(hW.trans hk).alloc _,by omega⟩
 exact zF.wide (zF.kept (zF.low hrow) (by simp) fun k hk' _=>Below.heap_alloc _ _ _ hk'.2) fun k hk'=>⟨by omega,by omega⟩
theorem Zq.set {r g P:Nat} {w2 W w7:World} {l:List Ex} {t:Tk} {us:List Tk} {d0:Option Addr} {d1 d2:Nat} (x0 x1 x2 x4:Value) (hW:zb r w2 W) (hk:zb r W w7) (hrow:Zg W.heap.size w7 l (.slice d0 d1 d2)) (e:∃o h,zc r g o h (t::us) w7)
  (hr:r<w2.heap.size) (hg:g<w2.heap.size) (hP:w2.heap.size≤P) (hPW:P<W.heap.size) (hb:w7.heap[P]?=some zA) :
  Zq r g w2 l (t::us) x0 x1 x2 x4 (.pointer (some ⟨P,0,none⟩)) (set5 w7 P x0 x1 x2 (.slice d0 d1 d2) x4):=by
 obtain ⟨o,h,e⟩:=e;refine ⟨P,d0,d1,d2,rfl,ya hb _ _ _ _ _,?_,⟨o,h,e.keep (zg _ _ _ _ _ _ _ (by omega)) (zg _ _ _ _ _ _ _ (by omega))⟩,Zk (hW.trans hk) hP _ _ _ _ _,hP⟩
 exact zF.wide (zF.kept hrow (w':=set5 w7 P x0 x1 x2 (.slice d0 d1 d2) x4) (by simp) fun k hk' _=>zg _ _ _ _ _ _ _ (by omega)) fun k hk'=>⟨by have:=hW.size;omega,by omega⟩
def yB (t:Tk) (res:PR (List Ex)):PR Ex :=
 match res with
 | .error a=>.error a
 | .ok (l,us)=>if zn (zK us) [93]=true then .ok (.mk 10 [] 0 l t.line,us.tail) else .error (zK us).at0
theorem YJ (r g o cap:Nat) (t:Tk) (ts:List Tk) (w:World) (res:PR (List Ex)) (hi:zn t [91]=true) (hEnd:∀l us,res=.ok (l,us)→zh us) (hex:∀w1 o1 cap1,zc r g o1 cap1 ts w1→zb r w w1→Calls Tryz.prog 178 #[.pointer (some ⟨r,0,none⟩),.func (.func 74) #[.pointer (some ⟨r,0,none⟩)] #[]] w1 (yx r g w1 res)) (h:zc r g o cap (t::ts) w) (hE:zh (t::ts)) (hk1:t.k≠1) (hk2:t.k≠2) (hk3:t.k≠3) (hiT:zn t [116,114,117,101]=false) (hiF:zn t [102,97,108,115,101]=false) (hiN:zn t [110,101,119]=false) :
  Calls Tryz.prog 168 #[.pointer (some ⟨r,0,none⟩)] w (zi r g w (yB t res)):=by
 generalize hres:yB t res=R;have aL:∀(fn:Fn) (first cap:Array Value) (w:World),(Instr.makeFunc fn first cap).run Tryz.prog w=.ok (.func fn first cap) w:=fun _ _ _ _=>rfl
 have hr:=h.lt.1;have ay:=h.lt.2;have h0:=h.alloc zA;have ch:=zZ r g o cap t ts _ h0;obtain ⟨w2,N⟩:∃w2,w2=((w.alloc zA).alloc (zE t)).alloc (zE t):=⟨_,rfl⟩;have h2:zc r g o cap (t::ts) w2:=by rw [N];exact (h0.alloc _).alloc _
 have k2:zb r w w2:=by rw [N];exact (((zb.refl r w).alloc _).alloc _).alloc _
 have n0:w2.heap[w.heap.size]?=some zA:=by
  rw [N,Below.heap_alloc _ _ _ (by simp;omega),Below.heap_alloc _ _ _ (by simp)]
  exact World.alloc_heap_new _ _
 have n2:w2.heap[w.heap.size+1+1]?=some (zE t):=by
  have hx:=World.alloc_heap_new ((w.alloc zA).alloc (zE t)) (zE t);rw [←N,show ((w.alloc zA).alloc (zE t)).heap.size=w.heap.size+1+1 by simp] at hx
  exact hx
 have ax:w.heap.size+1+1<w2.heap.size:=(Array.getElem?_eq_some_iff.1 n2).1;have an:Hid (w2=((w.alloc zA).alloc (zE t)).alloc (zE t)):=N;have O:Hid (zb r w w2):=k2;have aC:Hid (w2.heap[w.heap.size]?=some zA):=n0;have az:Hid (w2.heap[w.heap.size+1+1]?=some (zE t)):=n2;have aF:¬(t.k:Int)=1:=by omega
 have aD:¬(t.k:Int)=2:=by omega
 have aE:¬(t.k:Int)=3:=by omega
 clear h h0 N k2 n0 n2
 go_enter Tryz.func168,Tryz.ntmps168
 go_wp2_with fail
 refine ch.mono ?_;clear ch;rintro e w1 ⟨rfl,rfl⟩;simp only [YA];have Y:Hid (zb r w2 w2):=zb.refl r w2;have ah:Hid (zc r g o cap (t::ts) w2):=h2;clear h2;have I:=zX r g o cap t ts [116,114,117,101] w2 ah.out (fun hi=>(hE.tail (zf hi)).ne)
 rw [hiT] at I;go_wp2_with fail
 rw [←an.out];refine I.mono ?_;clear I;rintro e w3 ⟨rfl,x,y⟩;have ag:Hid (zb r w2 w3):=Y.out.trans x;have Z:Hid (zc r g o cap (t::ts) w3):=show zc _ _ _ _ _ _ by simpa using y
 clear x y Y ah;clear an;have I:=zX r g o cap t ts [102,97,108,115,101] w3 Z.out (fun hi=>(hE.tail (zf hi)).ne)
 rw [hiF] at I;go_wp2_with fail
 refine I.mono ?_;clear I;rintro e w4 ⟨rfl,x,y⟩;have ae:Hid (zb r w2 w4):=ag.out.trans x;have af:Hid (zc r g o cap (t::ts) w4):=show zc _ _ _ _ _ _ by simpa using y
 clear x y ag Z;have I:=zX r g o cap t ts [110,101,119] w4 af.out (fun hi=>(hE.tail (zf hi)).ne)
 rw [hiN] at I;go_wp2_with fail
 refine I.mono ?_;clear I;rintro e w5 ⟨rfl,x,y⟩;have ad:Hid (zb r w2 w5):=ae.out.trans x;have aa:Hid (zc r g o cap (t::ts) w5):=show zc _ _ _ _ _ _ by simpa using y
 clear x y ae af;have I:=zX r g o cap t ts [91] w5 aa.out (fun hi=>(hE.tail (zf hi)).ne)
 rw [hi] at I;go_wp2_with fail
 refine I.mono ?_;clear I;rintro e w6 ⟨rfl,x,y⟩;have U:zb r w2 w6:=ad.out.trans x;have av:zc r g (o+5) (cap-1) ts w6:=by simpa using y
 have aA:=hE.tail (zf hi);obtain ⟨t6,Q,rfl⟩:=aA.cons;have p2:=(U.block _ ax (by omega)).trans az.out
 obtain ⟨-,-,-,c3,-,-⟩:=zr p2;have aJ:=ze c3;have aH:=U.size;have al:Hid (zb r w2 w6):=U;have aG:Hid (w6.heap[w.heap.size+1+1]?=some (zE t)):=p2
 have cb:∀W:World,zb r w6 W→zc r g (o+5) (cap-1) (t6::Q) W→Calls Tryz.prog 178 #[.pointer (some ⟨r,0,none⟩),.func (.func 74) #[.pointer (some ⟨r,0,none⟩)] #[]] W fun e w'=>zb r W w'∧yx r g W res e w':=fun W hK hR =>
  (hex W _ _ hR (O.out.trans (al.out.trans hK))).mono fun e w' h=>⟨h.1,h⟩
 have X:Hid (zc r g (o+5) (cap-1) (t6::Q) w6):=av;clear hex x y U av p2 ad aa;rcases res with a | ⟨l,us⟩
 ·obtain rfl:R=.error a:=by rw [←hres];unfold yB;rfl
  have M:∀W:World,zb r w6 W→zc r g (o+5) (cap-1) (t6::Q) W→Calls Tryz.prog 178 #[.pointer (some ⟨r,0,none⟩),.func (.func 74) #[.pointer (some ⟨r,0,none⟩)] #[]] W fun e w'=>e=Ze a∧zb r w w':=fun W hK hR=>(cb W hK hR).mono fun e w' h=>⟨h.2.2,O.out.trans (al.out.trans (hK.trans h.1))⟩
  clear cb;go_wp2_with fail
  go_region_dies
  all_goals
   go_wp2_with fail
   refine (M _ ?_ ?_).mono ?_
   ·first | exact zb.drew r w6 | exact ((zb.refl r w6).alloc _).trans (zb.drew _ _)
   ·first | exact X.out.keep rfl rfl | exact (X.out.alloc _).keep rfl rfl
   ·rintro e w4 ⟨rfl,L⟩;exact ⟨rfl,L,rfl⟩
 ·have ao:=hEnd l us rfl
  obtain ⟨t3,H,rfl⟩:=ao.cons
  have M:∀W:World,zb r w6 W→zc r g (o+5) (cap-1) (t6::Q) W→Calls Tryz.prog 178 #[.pointer (some ⟨r,0,none⟩),.func (.func 74) #[.pointer (some ⟨r,0,none⟩)] #[]] W fun e w'=>∃(E:Option Addr) (G d2:Nat),e=.returned (.slice E G d2)∧w'.cell? ⟨w.heap.size+1+1,3,none⟩=some (.int .i64 t.line)∧W.heap.size≤w'.heap.size∧(W.heap[w6.heap.size]?=some zA→w'.heap[w6.heap.size]?=some zA) ∧
    Hid (zb r w2 W∧zb r W w'∧Zg W.heap.size w' l (.slice E G d2)∧∃o cap,zc r g o cap (t3::H) w'):=fun W hK hR=>(cb W hK hR).mono fun e w' h=>by
   obtain ⟨L,-,v,o4,aq,rfl,D,V⟩:=h
   obtain ⟨E,G,d2,rfl⟩:∃E G d2,v=.slice E G d2:=by
    rcases D with ⟨-,rfl⟩ | ⟨_,_,_,rfl,_⟩
    ·exact ⟨_,_,_,rfl⟩
    ·exact ⟨_,_,_,rfl⟩
   refine ⟨E,G,d2,rfl,L.cell (p:=⟨w.heap.size+1+1,3,none⟩) (by simp;omega) (hK.cell (p:=⟨w.heap.size+1+1,3,none⟩) (by simp;omega) c3),L.size,fun hz=>?_,al.out.trans hK,L,D,o4,aq,V⟩
   exact (L.block _ (Array.getElem?_eq_some_iff.1 hz).1 (by omega)).trans hz
  clear cb;go_wp2_with fail
  go_cut [5] (fun v wx=>Zq r g w2 l (t3::H) (.int .i64 10) (.string ⟨#[]⟩) (.int .i64 0) (.int .i64 t.line) v wx)
  case first =>
   go_region_held3 (fun W=>W.cell? ⟨w.heap.size+1+1,3,none⟩=some (.int .i64 t.line)) (first | go_keep | exact Z5 _ _ _ _ _ (by omega) m3 | exact Z5 _ _ _ _ _ (by omega) (aB _)) (first | (go_at_call 178;refine (M _ (by first | exact zb.drew r w6 | exact ((zb.refl r w6).alloc _).trans (zb.drew _ _)) (by first | exact X.out.keep rfl rfl | exact (X.out.alloc _).keep rfl rfl)).mono ?_;rintro e' w7 ⟨E,G,d2,rfl,m3,aI,aj,H7⟩;have aB:=ze m3;first | (have p6:=aj (World.alloc_heap_new w6 _);obtain ⟨q0,q1,q2,q3,q4,qf⟩:=zr p6) | skip))
   all_goals (obtain ⟨S,T,A,J⟩:=H7.out)
   all_goals first
    | (have HN:Hid (Zq r g w2 l (t3::H) (.int .i64 10) (.string ⟨#[]⟩) (.int .i64 0) (.int .i64 t.line) (.pointer (some ⟨w6.heap.size,0,none⟩)) (set5 w7 w6.heap.size (.int .i64 10) (.string ⟨#[]⟩) (.int .i64 0) (.slice E G d2) (.int .i64 t.line))):=Zq.set _ _ _ _ S T A J (by omega) (by omega) (by omega) (by simp) p6
       clear M H7 S T A J aj;go_wp2_with fail
       go_meet
       exact HN.out)
    | (have HN:Hid (Zq r g w2 l (t3::H) (.int .i64 10) (.string ⟨#[]⟩) (.int .i64 0) (.int .i64 t.line) (.pointer (some ⟨w7.heap.size,0,none⟩)) (w7.alloc (.cells #[.int .i64 10,.string ⟨#[]⟩,.int .i64 0,.slice E G d2,.int .i64 t.line] 90))):=Zq.alloc _ _ _ _ S T A J
       clear M H7 S T A J aj;go_wp2_with fail
       go_meet
       exact HN.out)
  case rest =>
   obtain ⟨P,E,G,d2,rfl,hP,D,⟨o3,ar,V⟩,hk,aK⟩:=hcut;have hs:w2.heap.size≤wc.heap.size:=hk.size;have ap:P<wc.heap.size:=(Array.getElem?_eq_some_iff.1 hP).1;have cn:=yP r g o3 ar t3 H [93] wc V (fun hi=>(ao.tail (zf hi)).ne)
   have au:Hid (zb r w2 wc):=hk;have aw:Hid (wc.heap[P]?=some (.cells #[.int .i64 10,.string ⟨#[]⟩,.int .i64 0,.slice E G d2,.int .i64 t.line] 90 (0,0))):=hP;have am:Hid (zF (fun k=>w2.heap.size≤k∧k≠P) wc l (.slice E G d2)):=D
   clear hP D V hk M
   by_cases hm:zn t3 [93]=true
   ·simp only [if_pos hm] at cn
    obtain rfl:R=.ok (.mk 10 [] 0 l t.line,H):=by rw [←hres];unfold yB;simp only [zD,hm,if_true,List.tail_cons]
    go_wp2_with fail
    refine cn.mono ?_;clear cn;rintro e ai ⟨z,rfl,ab⟩;have ak:=au.out.trans z;have p0:=(ak.block _ (by omega) (by omega)).trans aC.out
    have pB:=(z.block _ ap (by omega)).trans aw.out
    obtain ⟨e0,e1,e2,e3,e4,-⟩:=zr pB;obtain ⟨q0,q1,q2,q3,q4,qf⟩:=zr p0;obtain ⟨z0,z1,z2,z3,z4⟩:=zo p0 (.int .i64 10) (.string ⟨#[]⟩) (.int .i64 0) (.slice E G d2) (.int .i64 t.line);have K:Zg w2.heap.size ai l (.slice E G d2):=zF.wide (zF.kept am.out z.size fun k hk' hlt=>z.block k hlt (by omega)) fun k hk'=>hk'.1
    have HP:Hid (zi r g w (.ok (.mk 10 [] 0 l t.line,H)) (.returned (.agg #[.int .i64 10,.string ⟨#[]⟩,.int .i64 0,.slice E G d2,.int .i64 t.line])) (set5 ai w.heap.size (.int .i64 10) (.string ⟨#[]⟩) (.int .i64 0) (.slice E G d2) (.int .i64 t.line))) :=
     zi.of_set5 (B:=w2.heap.size) 10 [] 0 t.line (O.out.trans ak) (Nat.le_refl _) hr ay K (by omega) ab
    clear ak z ab p0 pB K;go_wp2
    exact bodyPost_ret (v:=.agg #[.int .i64 10,.string ⟨#[]⟩,.int .i64 0,.slice E G d2,.int .i64 t.line]) (by simp [results,Tryz.results168,go_sem,z0,z1,z2,z3,z4]) rfl HP.out
   ·simp only [if_neg hm] at cn
    obtain rfl:R=.error t3.at0:=by rw [←hres];unfold yB;simp only [zD,if_neg hm]
    go_wp2_with fail
    refine cn.mono ?_;clear cn;rintro e ai ⟨z,rfl⟩;exact ⟨rfl,O.out.trans (au.out.trans z),rfl⟩
end Go.Proofs.YtmbofhpmockmbaaGreatDoor
