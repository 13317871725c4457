import Derived.Test.YtpejpbbdgblbeaaGreatDoorMC16
import Derived.Deep.DeepCutAuto
import Derived.Deep.RegionHeld3
namespace Go.Proofs.YtpejpbbdgblbeaaGreatDoor
open Go.RowKit Go.Shelf
set_option maxHeartbeats 16000000
set_option maxRecDepth 100000
theorem zc.drew (r:Nat) (w:World):zc r w w.drew:=⟨rfl,rfl,rfl,Nat.le_refl _,fun _ _ _=>rfl⟩
def xm (r g:Nat) (w2:World) (l:List Ex) (us:List Tk) (x0 x1 x2 x4:Value) (v:Value) (wx:World):Prop :=
 ∃(P:Nat) (d0:Option Addr) (d1 d2:Nat),v=.pointer (some ⟨P,0,none⟩)∧wx.heap[P]?=some (.cells #[x0,x1,x2,.slice d0 d1 d2,x4] 45 (0,0))∧zv (fun k=>w2.heap.size≤k∧k≠P) wx l (.slice d0 d1 d2)∧(∃o cap,zh r g o cap us wx)∧zc r w2 wx∧w2.heap.size≤P
theorem zv.low {S:Nat→Prop} {w:World} {l:List Ex} {v:Value} (h:zv S w l v):zv (fun k=>S k∧k<w.heap.size) w l v:=by
 rcases h with h | ⟨g,cap,us,hv,hne,hlen,hB,hg,hc,hm,hcell,hfive,hk⟩
 ·exact .inl h
 ·exact .inr ⟨g,cap,us,hv,hne,hlen,⟨hB,hg⟩,hg,hc,hm,hcell,hfive,fun j x c hx hc'=>zY.low (hk j x c hx hc')⟩
theorem xm.alloc {r g:Nat} {w2 W w7:World} {l:List Ex} {t:Tk} {us:List Tk} {d0:Option Addr} {d1 d2:Nat} (x0 x1 x2 x4:Value) (hW:zc r w2 W) (hk:zc r W w7) (hrow:yQ W.heap.size w7 l (.slice d0 d1 d2)) (hrd:∃o cap,zh r g o cap (t::us) w7) :
  xm r g w2 l (t::us) x0 x1 x2 x4 (.pointer (some ⟨w7.heap.size,0,none⟩)) (w7.alloc (.cells #[x0,x1,x2,.slice d0 d1 d2,x4] 45)):=by
 obtain ⟨o,cap,hrd⟩:=hrd;have h1:=hW.size;have h2:=hk.size;refine ⟨w7.heap.size,d0,d1,d2,rfl,World.alloc_heap_new _ _,?_,⟨o,cap,hrd.alloc _⟩,(hW.trans hk).alloc _,by omega⟩
 exact zv.wide (zv.kept (zv.low hrow) (by simp) fun k hk' _=>Below.heap_alloc _ _ _ hk'.2) fun k hk'=>⟨by omega,by omega⟩
theorem xm.set {r g P:Nat} {w2 W w7:World} {l:List Ex} {t:Tk} {us:List Tk} {d0:Option Addr} {d1 d2:Nat} (x0 x1 x2 x4:Value) (hW:zc r w2 W) (hk:zc r W w7) (hrow:yQ W.heap.size w7 l (.slice d0 d1 d2)) (hrd:∃o cap,zh r g o cap (t::us) w7)
  (hr:r<w2.heap.size) (hg:g<w2.heap.size) (hP:w2.heap.size≤P) (hPW:P<W.heap.size) (hb:w7.heap[P]?=some ZA) :
  xm r g w2 l (t::us) x0 x1 x2 x4 (.pointer (some ⟨P,0,none⟩)) (set5 w7 P x0 x1 x2 (.slice d0 d1 d2) x4):=by
 obtain ⟨o,cap,hrd⟩:=hrd;refine ⟨P,d0,d1,d2,rfl,YZ hb _ _ _ _ _,?_,⟨o,cap,hrd.keep (zw _ _ _ _ _ _ _ (by omega)) (zw _ _ _ _ _ _ _ (by omega))⟩,yq (hW.trans hk) hP _ _ _ _ _,hP⟩
 exact zv.wide (zv.kept hrow (w':=set5 w7 P x0 x1 x2 (.slice d0 d1 d2) x4) (by simp) fun k hk' _=>zw _ _ _ _ _ _ _ (by omega)) fun k hk'=>⟨by have:=hW.size;omega,by omega⟩
def VU (t:Tk) (res:PR (List Ex)):PR Ex :=
 match res with
 | .error a=>.error a
 | .ok (l,us)=>if zn (zx us) [93]=true then .ok (.mk 10 [] 0 l t.line,us.tail) else .error (zx us).at0
theorem Qi (r g o cap:Nat) (t:Tk) (ts:List Tk) (w:World) (res:PR (List Ex)) (hi:zn t [91]=true) (hEnd:∀l us,res=.ok (l,us)→zj us) (hex:∀w1 o1 cap1,zh r g o1 cap1 ts w1→zc r w w1→Calls Tryz.prog 196 #[.pointer (some ⟨r,0,none⟩),.func (.func 44) #[.pointer (some ⟨r,0,none⟩)] #[]] w1 (Vz r g w1 res)) (h:zh r g o cap (t::ts) w) (hE:zj (t::ts)) (hk1:t.k≠1) (hk2:t.k≠2) (hk3:t.k≠3) (hiT:zn t [116,114,117,101]=false) (hiF:zn t [102,97,108,115,101]=false) (hiN:zn t [110,101,119]=false) :
  Calls Tryz.prog 180 #[.pointer (some ⟨r,0,none⟩)] w (zQ r g w (VU t res)):=by
 generalize hres:VU t res=R;have hmf:∀(fn:Fn) (first cap:Array Value) (w:World),(Instr.makeFunc fn first cap).run Tryz.prog w=.ok (.func fn first cap) w:=fun _ _ _ _=>rfl
 have hr:=h.lt.1;have hgw:=h.lt.2;have h0:=h.alloc ZA;have ch:=yR r g o cap t ts _ h0;obtain ⟨w2,hw2⟩:∃w2,w2=((w.alloc ZA).alloc (yi t)).alloc (yi t):=⟨_,rfl⟩;have h2:zh r g o cap (t::ts) w2:=by rw [hw2];exact (h0.alloc _).alloc _
 have k2:zc r w w2:=by rw [hw2];exact (((zc.refl r w).alloc _).alloc _).alloc _
 have n0:w2.heap[w.heap.size]?=some ZA:=by
  rw [hw2,Below.heap_alloc _ _ _ (by simp;omega),Below.heap_alloc _ _ _ (by simp)]
  exact World.alloc_heap_new _ _
 have n2:w2.heap[w.heap.size+1+1]?=some (yi t):=by
  have hx:=World.alloc_heap_new ((w.alloc ZA).alloc (yi t)) (yi t);rw [←hw2,show ((w.alloc ZA).alloc (yi t)).heap.size=w.heap.size+1+1 by simp] at hx
  exact hx
 have hl2:w.heap.size+1+1<w2.heap.size:=(Array.getElem?_eq_some_iff.1 n2).1;have HW2:Hid (w2=((w.alloc ZA).alloc (yi t)).alloc (yi t)):=hw2;have HK2:Hid (zc r w w2):=k2;have HN0:Hid (w2.heap[w.heap.size]?=some ZA):=n0;have HN2:Hid (w2.heap[w.heap.size+1+1]?=some (yi t)):=n2;have hk1':¬(t.k:Int)=1:=by omega
 have hk2':¬(t.k:Int)=2:=by omega
 have hk3':¬(t.k:Int)=3:=by omega
 clear h h0 hw2 k2 n0 n2
 go_enter Tryz.func180,Tryz.ntmps180
 go_wp2_with fail
 refine ch.mono ?_;clear ch;rintro e w1 ⟨rfl,rfl⟩;simp only [Xc];have HKw2:Hid (zc r w2 w2):=zc.refl r w2;have HRw2:Hid (zh r g o cap (t::ts) w2):=h2;clear h2;have cs:=ZL r g o cap t ts [116,114,117,101] w2 HRw2.out (fun hi=>(hE.tail (zl hi)).ne)
 rw [hiT] at cs;go_wp2_with fail
 rw [←HW2.out];refine cs.mono ?_;clear cs;rintro e w3 ⟨rfl,hkx,hrx⟩;have HKw3:Hid (zc r w2 w3):=HKw2.out.trans hkx;have HRw3:Hid (zh r g o cap (t::ts) w3):=show zh _ _ _ _ _ _ by simpa using hrx
 clear hkx hrx HKw2 HRw2;clear HW2;have cs:=ZL r g o cap t ts [102,97,108,115,101] w3 HRw3.out (fun hi=>(hE.tail (zl hi)).ne)
 rw [hiF] at cs;go_wp2_with fail
 refine cs.mono ?_;clear cs;rintro e w4 ⟨rfl,hkx,hrx⟩;have HKw4:Hid (zc r w2 w4):=HKw3.out.trans hkx;have HRw4:Hid (zh r g o cap (t::ts) w4):=show zh _ _ _ _ _ _ by simpa using hrx
 clear hkx hrx HKw3 HRw3;have cs:=ZL r g o cap t ts [110,101,119] w4 HRw4.out (fun hi=>(hE.tail (zl hi)).ne)
 rw [hiN] at cs;go_wp2_with fail
 refine cs.mono ?_;clear cs;rintro e w5 ⟨rfl,hkx,hrx⟩;have HKw5:Hid (zc r w2 w5):=HKw4.out.trans hkx;have HRw5:Hid (zh r g o cap (t::ts) w5):=show zh _ _ _ _ _ _ by simpa using hrx
 clear hkx hrx HKw4 HRw4;have cs:=ZL r g o cap t ts [91] w5 HRw5.out (fun hi=>(hE.tail (zl hi)).ne)
 rw [hi] at cs;go_wp2_with fail
 refine cs.mono ?_;clear cs;rintro e w6 ⟨rfl,hkx,hrx⟩;have k26:zc r w2 w6:=HKw5.out.trans hkx;have hr6:zh r g (o+5) (cap-1) ts w6:=by simpa using hrx
 have hE6:=hE.tail (zl hi);obtain ⟨t6,ts6,rfl⟩:=hE6.cons;have p2:=(k26.block _ hl2 (by omega)).trans HN2.out
 obtain ⟨-,-,-,c3,-,-⟩:=zo p2;have c3':=ze c3;have hs6:=k26.size;have HK6:Hid (zc r w2 w6):=k26;have HP2:Hid (w6.heap[w.heap.size+1+1]?=some (yi t)):=p2
 have cb:∀W:World,zc r w6 W→zh r g (o+5) (cap-1) (t6::ts6) W→Calls Tryz.prog 196 #[.pointer (some ⟨r,0,none⟩),.func (.func 44) #[.pointer (some ⟨r,0,none⟩)] #[]] W fun e w'=>zc r W w'∧Vz r g W res e w':=fun W hK hR =>
  (hex W _ _ hR (HK2.out.trans (HK6.out.trans hK))).mono fun e w' h=>⟨h.1,h⟩
 have HR6:Hid (zh r g (o+5) (cap-1) (t6::ts6) w6):=hr6;clear hex hkx hrx k26 hr6 p2 HKw5 HRw5;rcases res with a | ⟨l,us⟩
 ·obtain rfl:R=.error a:=by rw [←hres];unfold VU;rfl
  have cu':∀W:World,zc r w6 W→zh r g (o+5) (cap-1) (t6::ts6) W→Calls Tryz.prog 196 #[.pointer (some ⟨r,0,none⟩),.func (.func 44) #[.pointer (some ⟨r,0,none⟩)] #[]] W fun e w'=>e=Z2 a∧zc r w w':=fun W hK hR=>(cb W hK hR).mono fun e w' h=>⟨h.2.2,HK2.out.trans (HK6.out.trans (hK.trans h.1))⟩
  clear cb;go_wp2_with fail
  go_region_dies
  all_goals
   go_wp2_with fail
   refine (cu' _ ?_ ?_).mono ?_
   ·first | exact zc.drew r w6 | exact ((zc.refl r w6).alloc _).trans (zc.drew _ _)
   ·first | exact HR6.out.keep rfl rfl | exact (HR6.out.alloc _).keep rfl rfl
   ·rintro e w4 ⟨rfl,hk4⟩;exact ⟨rfl,hk4,rfl⟩
 ·have hE3:=hEnd l us rfl
  obtain ⟨t3,ts3,rfl⟩:=hE3.cons
  have cu':∀W:World,zc r w6 W→zh r g (o+5) (cap-1) (t6::ts6) W→Calls Tryz.prog 196 #[.pointer (some ⟨r,0,none⟩),.func (.func 44) #[.pointer (some ⟨r,0,none⟩)] #[]] W fun e w'=>∃(d0:Option Addr) (d1 d2:Nat),e=.returned (.slice d0 d1 d2)∧w'.cell? ⟨w.heap.size+1+1,3,none⟩=some (.int .i64 t.line)∧W.heap.size≤w'.heap.size∧(W.heap[w6.heap.size]?=some ZA→w'.heap[w6.heap.size]?=some ZA) ∧
    Hid (zc r w2 W∧zc r W w'∧yQ W.heap.size w' l (.slice d0 d1 d2)∧∃o cap,zh r g o cap (t3::ts3) w'):=fun W hK hR=>(cb W hK hR).mono fun e w' h=>by
   obtain ⟨hk4,-,v,o4,cap4,rfl,hrow,hrd⟩:=h
   obtain ⟨d0,d1,d2,rfl⟩:∃d0 d1 d2,v=.slice d0 d1 d2:=by
    rcases hrow with ⟨-,rfl⟩ | ⟨_,_,_,rfl,_⟩
    ·exact ⟨_,_,_,rfl⟩
    ·exact ⟨_,_,_,rfl⟩
   refine ⟨d0,d1,d2,rfl,hk4.cell (p:=⟨w.heap.size+1+1,3,none⟩) (by simp;omega) (hK.cell (p:=⟨w.heap.size+1+1,3,none⟩) (by simp;omega) c3),hk4.size,fun hz=>?_,HK6.out.trans hK,hk4,hrow,o4,cap4,hrd⟩
   exact (hk4.block _ (Array.getElem?_eq_some_iff.1 hz).1 (by omega)).trans hz
  clear cb;go_wp2_with fail
  go_cut [5] (fun v wx=>xm r g w2 l (t3::ts3) (.int .i64 10) (.string ⟨#[]⟩) (.int .i64 0) (.int .i64 t.line) v wx)
  case first =>
   go_region_held3 (fun W=>W.cell? ⟨w.heap.size+1+1,3,none⟩=some (.int .i64 t.line)) (first | go_keep | exact XY _ _ _ _ _ (by omega) m3 | exact XY _ _ _ _ _ (by omega) (m3' _)) (first | (go_at_call 196;refine (cu' _ (by first | exact zc.drew r w6 | exact ((zc.refl r w6).alloc _).trans (zc.drew _ _)) (by first | exact HR6.out.keep rfl rfl | exact (HR6.out.alloc _).keep rfl rfl)).mono ?_;rintro e' w7 ⟨d0,d1,d2,rfl,m3,hs7,hz7,H7⟩;have m3':=ze m3;first | (have p6:=hz7 (World.alloc_heap_new w6 _);obtain ⟨q0,q1,q2,q3,q4,qf⟩:=zo p6) | skip))
   all_goals (obtain ⟨hkW,hk7,hrow7,hrd7⟩:=H7.out)
   all_goals first
    | (have HN:Hid (xm r g w2 l (t3::ts3) (.int .i64 10) (.string ⟨#[]⟩) (.int .i64 0) (.int .i64 t.line) (.pointer (some ⟨w6.heap.size,0,none⟩)) (set5 w7 w6.heap.size (.int .i64 10) (.string ⟨#[]⟩) (.int .i64 0) (.slice d0 d1 d2) (.int .i64 t.line))):=xm.set _ _ _ _ hkW hk7 hrow7 hrd7 (by omega) (by omega) (by omega) (by simp) p6
       clear cu' H7 hkW hk7 hrow7 hrd7 hz7;go_wp2_with fail
       go_meet
       exact HN.out)
    | (have HN:Hid (xm r g w2 l (t3::ts3) (.int .i64 10) (.string ⟨#[]⟩) (.int .i64 0) (.int .i64 t.line) (.pointer (some ⟨w7.heap.size,0,none⟩)) (w7.alloc (.cells #[.int .i64 10,.string ⟨#[]⟩,.int .i64 0,.slice d0 d1 d2,.int .i64 t.line] 45))):=xm.alloc _ _ _ _ hkW hk7 hrow7 hrd7
       clear cu' H7 hkW hk7 hrow7 hrd7 hz7;go_wp2_with fail
       go_meet
       exact HN.out)
  case rest =>
   obtain ⟨P,d0,d1,d2,rfl,hP,hrow,⟨o3,cap3,hrd⟩,hk,hle⟩:=hcut;have hs:w2.heap.size≤wc.heap.size:=hk.size;have hPlt:P<wc.heap.size:=(Array.getElem?_eq_some_iff.1 hP).1;have cn:=Yt r g o3 cap3 t3 ts3 [93] wc hrd (fun hi=>(hE3.tail (zl hi)).ne)
   have HKC:Hid (zc r w2 wc):=hk;have HPC:Hid (wc.heap[P]?=some (.cells #[.int .i64 10,.string ⟨#[]⟩,.int .i64 0,.slice d0 d1 d2,.int .i64 t.line] 45 (0,0))):=hP;have HROW:Hid (zv (fun k=>w2.heap.size≤k∧k≠P) wc l (.slice d0 d1 d2)):=hrow
   clear hP hrow hrd hk cu'
   by_cases hm:zn t3 [93]=true
   ·simp only [if_pos hm] at cn
    obtain rfl:R=.ok (.mk 10 [] 0 l t.line,ts3):=by rw [←hres];unfold VU;simp only [zI,hm,if_true,List.tail_cons]
    go_wp2_with fail
    refine cn.mono ?_;clear cn;rintro e w12 ⟨hk12,rfl,hr12⟩;have k12:=HKC.out.trans hk12;have p0:=(k12.block _ (by omega) (by omega)).trans HN0.out
    have pB:=(hk12.block _ hPlt (by omega)).trans HPC.out
    obtain ⟨e0,e1,e2,e3,e4,-⟩:=zo pB;obtain ⟨q0,q1,q2,q3,q4,qf⟩:=zo p0;obtain ⟨z0,z1,z2,z3,z4⟩:=zA p0 (.int .i64 10) (.string ⟨#[]⟩) (.int .i64 0) (.slice d0 d1 d2) (.int .i64 t.line);have hrow12:yQ w2.heap.size w12 l (.slice d0 d1 d2):=zv.wide (zv.kept HROW.out hk12.size fun k hk' hlt=>hk12.block k hlt (by omega)) fun k hk'=>hk'.1
    have HP:Hid (zQ r g w (.ok (.mk 10 [] 0 l t.line,ts3)) (.returned (.agg #[.int .i64 10,.string ⟨#[]⟩,.int .i64 0,.slice d0 d1 d2,.int .i64 t.line])) (set5 w12 w.heap.size (.int .i64 10) (.string ⟨#[]⟩) (.int .i64 0) (.slice d0 d1 d2) (.int .i64 t.line))) :=
     zQ.of_set5 (B:=w2.heap.size) 10 [] 0 t.line (HK2.out.trans k12) (Nat.le_refl _) hr hgw hrow12 (by omega) hr12
    clear k12 hk12 hr12 p0 pB hrow12;go_wp2
    exact bodyPost_ret (v:=.agg #[.int .i64 10,.string ⟨#[]⟩,.int .i64 0,.slice d0 d1 d2,.int .i64 t.line]) (by simp [results,Tryz.results180,go_sem,z0,z1,z2,z3,z4]) rfl HP.out
   ·simp only [if_neg hm] at cn
    obtain rfl:R=.error t3.at0:=by rw [←hres];unfold VU;simp only [zI,if_neg hm]
    go_wp2_with fail
    refine cn.mono ?_;clear cn;rintro e w12 ⟨hk12,rfl⟩;exact ⟨rfl,HK2.out.trans (HKC.out.trans hk12),rfl⟩
def zau (t t6:Tk) (res:PR (List Ex)):PR Ex :=
 if t6.k=1 then
  match res with
  | .error a=>.error a
  | .ok (l,us)=>.ok (.mk 11 t6.s 0 l t.line,us)
 else .error t6.at0
theorem Up (r g o cap:Nat) (t t6:Tk) (ts6:List Tk) (w:World) (res:PR (List Ex)) (hi:zn t [110,101,119]=true) (hbr:t6.k=1→∀w1 o1 cap1,zh r g o1 cap1 ts6 w1→zc r w w1→Calls Tryz.prog 195 #[.pointer (some ⟨r,0,none⟩),.func (.func 44) #[.pointer (some ⟨r,0,none⟩)] #[]] w1 (Vz r g w1 res)) (h:zh r g o cap (t::t6::ts6) w) (hE:zj (t::t6::ts6)) (hk1:t.k≠1) (hk2:t.k≠2) (hk3:t.k≠3) (hiT:zn t [116,114,117,101]=false) (hiF:zn t [102,97,108,115,101]=false) :
  Calls Tryz.prog 180 #[.pointer (some ⟨r,0,none⟩)] w (zQ r g w (zau t t6 res)):=by
 generalize hres:zau t t6 res=R;have hmf:∀(fn:Fn) (first cap:Array Value) (w:World),(Instr.makeFunc fn first cap).run Tryz.prog w=.ok (.func fn first cap) w:=fun _ _ _ _=>rfl
 obtain ⟨ts,hts⟩:∃ts,ts=t6::ts6:=⟨_,rfl⟩;rw [←hts] at h hE;have hr:=h.lt.1;have hgw:=h.lt.2;have h0:=h.alloc ZA;have ch:=yR r g o cap t ts _ h0;obtain ⟨w2,hw2⟩:∃w2,w2=((w.alloc ZA).alloc (yi t)).alloc (yi t):=⟨_,rfl⟩;have h2:zh r g o cap (t::ts) w2:=by rw [hw2];exact (h0.alloc _).alloc _
 have k2:zc r w w2:=by rw [hw2];exact (((zc.refl r w).alloc _).alloc _).alloc _
 have n0:w2.heap[w.heap.size]?=some ZA:=by
  rw [hw2,Below.heap_alloc _ _ _ (by simp;omega),Below.heap_alloc _ _ _ (by simp)]
  exact World.alloc_heap_new _ _
 have n2:w2.heap[w.heap.size+1+1]?=some (yi t):=by
  have hx:=World.alloc_heap_new ((w.alloc ZA).alloc (yi t)) (yi t);rw [←hw2,show ((w.alloc ZA).alloc (yi t)).heap.size=w.heap.size+1+1 by simp] at hx
  exact hx
 have hl2:w.heap.size+1+1<w2.heap.size:=(Array.getElem?_eq_some_iff.1 n2).1;have HW2:Hid (w2=((w.alloc ZA).alloc (yi t)).alloc (yi t)):=hw2;have HK2:Hid (zc r w w2):=k2;have HN0:Hid (w2.heap[w.heap.size]?=some ZA):=n0;have HN2:Hid (w2.heap[w.heap.size+1+1]?=some (yi t)):=n2;have hk1':¬(t.k:Int)=1:=by omega
 have hk2':¬(t.k:Int)=2:=by omega
 have hk3':¬(t.k:Int)=3:=by omega
 clear h h0 hw2 k2 n0 n2
 go_enter Tryz.func180,Tryz.ntmps180
 go_wp2_with fail
 refine ch.mono ?_;clear ch;rintro e w1 ⟨rfl,rfl⟩;simp only [Xc];have HKw2:Hid (zc r w2 w2):=zc.refl r w2;have HRw2:Hid (zh r g o cap (t::ts) w2):=h2;clear h2;have cs:=ZL r g o cap t ts [116,114,117,101] w2 HRw2.out (fun hi=>(hE.tail (zl hi)).ne)
 rw [hiT] at cs;go_wp2_with fail
 rw [←HW2.out];refine cs.mono ?_;clear cs;rintro e w3 ⟨rfl,hkx,hrx⟩;have HKw3:Hid (zc r w2 w3):=HKw2.out.trans hkx;have HRw3:Hid (zh r g o cap (t::ts) w3):=show zh _ _ _ _ _ _ by simpa using hrx
 clear hkx hrx HKw2 HRw2;clear HW2;have cs:=ZL r g o cap t ts [102,97,108,115,101] w3 HRw3.out (fun hi=>(hE.tail (zl hi)).ne)
 rw [hiF] at cs;go_wp2_with fail
 refine cs.mono ?_;clear cs;rintro e w4 ⟨rfl,hkx,hrx⟩;have HKw4:Hid (zc r w2 w4):=HKw3.out.trans hkx;have HRw4:Hid (zh r g o cap (t::ts) w4):=show zh _ _ _ _ _ _ by simpa using hrx
 clear hkx hrx HKw3 HRw3;have cs:=ZL r g o cap t ts [110,101,119] w4 HRw4.out (fun hi=>(hE.tail (zl hi)).ne)
 rw [hi] at cs;go_wp2_with fail
 refine cs.mono ?_;clear cs;rintro e w5 ⟨rfl,hkx,hrx⟩;have k25:zc r w2 w5:=HKw4.out.trans hkx;have hr5:zh r g (o+5) (cap-1) ts w5:=by simpa using hrx
 have hE5:=hE.tail (zl hi);subst hts;have p2:=(k25.block _ hl2 (by omega)).trans HN2.out
 obtain ⟨-,-,-,c3,-,-⟩:=zo p2;have c3':=ze c3;have hs5:=k25.size;have HK5:Hid (zc r w2 w5):=k25
 have cb:∀W:World,zc r w5 W→zh r g (o+5) (cap-1) (t6::ts6) W→Calls Tryz.prog 94 #[.pointer (some ⟨r,0,none⟩)] W fun e w'=>zc r W w'∧if t6.k=1 then e=.returned (.string (za t6.s))∧zh r g (o+5+5) (cap-1-1) ts6 w' else e=Z2 t6.at0:=fun W hK hR =>
  Xl r g _ _ t6 ts6 W hR (fun hk=>(hE5.tail (by omega)).ne)
 have HR6:Hid (zh r g (o+5) (cap-1) (t6::ts6) w5):=hr5;clear hkx hrx k25 hr5 p2 HKw4 HRw4
 by_cases h6:t6.k=1
 ·have hE6:=hE5.tail (by omega:t6.k≠0)
  obtain ⟨t7,ts7,rfl⟩:=hE6.cons
  have cu':∀W:World,zc r w5 W→zh r g (o+5) (cap-1) (t6::t7::ts7) W→Calls Tryz.prog 94 #[.pointer (some ⟨r,0,none⟩)] W fun e w'=>e=.returned (.string (za t6.s))∧w'.cell? ⟨w.heap.size+1+1,3,none⟩=some (.int .i64 t.line)∧W.heap.size≤w'.heap.size∧(W.heap[w5.heap.size]?=some ZA→w'.heap[w5.heap.size]?=some ZA) ∧
    Hid (zc r w2 W∧zc r W w'∧zh r g (o+5+5) (cap-1-1) (t7::ts7) w'):=fun W hK hR=>(cb W hK hR).mono fun e w' h=>by
   obtain ⟨hk4,hpost⟩:=h;rw [if_pos h6] at hpost;obtain ⟨rfl,hrd⟩:=hpost;refine ⟨rfl,hk4.cell (p:=⟨w.heap.size+1+1,3,none⟩) (by simp;omega) (hK.cell (p:=⟨w.heap.size+1+1,3,none⟩) (by simp;omega) c3),hk4.size,fun hz=>?_,HK5.out.trans hK,hk4,hrd⟩
   exact (hk4.block _ (Array.getElem?_eq_some_iff.1 hz).1 (by omega)).trans hz
  have HBR:Hid (∀w1 o1 cap1,zh r g o1 cap1 (t7::ts7) w1→zc r w w1→Calls Tryz.prog 195 #[.pointer (some ⟨r,0,none⟩),.func (.func 44) #[.pointer (some ⟨r,0,none⟩)] #[]] w1 (Vz r g w1 res)):=hbr h6;clear cb hbr;go_wp2_with fail
  go_cut [4] (fun v wx=>xm r g w2 [] (t7::ts7) (.int .i64 11) (.string (za t6.s)) (.int .i64 0) (.int .i64 t.line) v wx)
  case first =>
   go_region_held3 (fun W=>W.cell? ⟨w.heap.size+1+1,3,none⟩=some (.int .i64 t.line)) (first | go_keep | exact XY _ _ _ _ _ (by omega) m3 | exact XY _ _ _ _ _ (by omega) (m3' _)) (first | (go_at_call 94;refine (cu' _ (by first | exact zc.drew r w5 | exact ((zc.refl r w5).alloc _).trans (zc.drew _ _)) (by first | exact HR6.out.keep rfl rfl | exact (HR6.out.alloc _).keep rfl rfl)).mono ?_;rintro e' w7 ⟨rfl,m3,hs7,hz7,H7⟩;have m3':=ze m3;first | (have p6:=hz7 (World.alloc_heap_new w5 _);obtain ⟨q0,q1,q2,q3,q4,qf⟩:=zo p6) | skip))
   all_goals (obtain ⟨hkW,hk7,hrd7⟩:=H7.out)
   all_goals first
    | (have HN:Hid (xm r g w2 [] (t7::ts7) (.int .i64 11) (.string (za t6.s)) (.int .i64 0) (.int .i64 t.line) (.pointer (some ⟨w5.heap.size,0,none⟩)) (set5 w7 w5.heap.size (.int .i64 11) (.string (za t6.s)) (.int .i64 0) (.slice none 0 0) (.int .i64 t.line))):=xm.set _ _ _ _ hkW hk7 (.inl ⟨rfl,rfl⟩) ⟨_,_,hrd7⟩ (by omega) (by omega) (by omega) (by simp) p6
       clear cu' H7 hkW hk7 hrd7 hz7;go_wp2_with fail
       go_meet
       exact HN.out)
    | (have HN:Hid (xm r g w2 [] (t7::ts7) (.int .i64 11) (.string (za t6.s)) (.int .i64 0) (.int .i64 t.line) (.pointer (some ⟨w7.heap.size,0,none⟩)) (w7.alloc (.cells #[.int .i64 11,.string (za t6.s),.int .i64 0,.slice none 0 0,.int .i64 t.line] 45))):=xm.alloc _ _ _ _ hkW hk7 (.inl ⟨rfl,rfl⟩) ⟨_,_,hrd7⟩
       clear cu' H7 hkW hk7 hrd7 hz7;go_wp2_with fail
       go_meet
       exact HN.out)
  case rest =>
   obtain ⟨P,d0,d1,d2,rfl,hP,hrow,⟨o3,cap3,hrd⟩,hk,hle⟩:=hcut
   obtain ⟨rfl,rfl,rfl⟩:d0=none∧d1=0∧d2=0:=by
    rcases hrow with ⟨-,hv⟩ | ⟨_,_,_,_,hne,_⟩
    ·cases hv;exact ⟨rfl,rfl,rfl⟩
    ·exact absurd rfl hne
   have hs:w2.heap.size≤wc.heap.size:=hk.size;have hPlt:P<wc.heap.size:=(Array.getElem?_eq_some_iff.1 hP).1;have cn:=HBR.out wc _ _ hrd (HK2.out.trans hk);have HKC:Hid (zc r w2 wc):=hk;have HPC:Hid (wc.heap[P]?=some (.cells #[.int .i64 11,.string (za t6.s),.int .i64 0,.slice none 0 0,.int .i64 t.line] 45 (0,0))):=hP;clear hP hrow hrd hk cu' HBR;go_wp2_with fail
   refine cn.mono ?_;clear cn;rintro e w12 ⟨hk12,hpost⟩;have HK12:Hid (zc r w2 w12):=HKC.out.trans hk12;rcases res with a | ⟨l,us⟩
   ·obtain rfl:=hpost
    obtain rfl:R=.error a:=by rw [←hres];unfold zau;rw [if_pos h6]
    exact ⟨rfl,HK2.out.trans HK12.out,rfl⟩
   ·obtain ⟨v,o4,cap4,rfl,hrow,hrd⟩:=hpost
    obtain rfl:R=.ok (.mk 11 t6.s 0 l t.line,us):=by rw [←hres];unfold zau;rw [if_pos h6]
    obtain ⟨e0,e1,e2,rfl⟩:∃e0 e1 e2,v=.slice e0 e1 e2:=by
     rcases hrow with ⟨-,rfl⟩ | ⟨_,_,_,rfl,_⟩
     ·exact ⟨_,_,_,rfl⟩
     ·exact ⟨_,_,_,rfl⟩
    have pB:=(hk12.block _ hPlt (by omega)).trans HPC.out
    obtain ⟨-,-,-,g3,-,gf⟩:=zo pB;have gf3:=gf 3;obtain ⟨w13,hw13⟩:∃w13,w13=w12.setCell ⟨P,3,none⟩ (.slice e0 e1 e2):=⟨_,rfl⟩;have hw13':=hw13.symm;have hkeep:∀k,k≠P→w13.heap[k]?=w12.heap[k]?:=fun k hk=>by rw [hw13];exact Below.heap_setCell _ _ _ _ (by simpa using hk)
    have pC:w13.heap[P]?=some (.cells #[.int .i64 11,.string (za t6.s),.int .i64 0,.slice e0 e1 e2,.int .i64 t.line] 45 (0,0)):=by rw [hw13];exact zm _ pB
    have p0:=(hkeep w.heap.size (by omega)).trans ((HK12.out.block _ (by omega) (by omega)).trans HN0.out)
    have hs12:=hk12.size;have hs13:w12.heap.size≤w13.heap.size:=by rw [hw13];simp
    have hk13:zc r w w13:=by rw [hw13];exact (HK2.out.trans HK12.out).setOther (by simp;omega) _
    have hrow13:yQ wc.heap.size w13 l (.slice e0 e1 e2):=yQ.kept hrow hs13 fun k hB _=>hkeep k (by omega)
    have hrd13:zh r g o4 cap4 us w13:=hrd.keep (hkeep r (by omega)) (hkeep g (by omega))
    obtain ⟨f0,f1,f2,f3,f4,-⟩:=zo pC;obtain ⟨q0,q1,q2,q3,q4,qf⟩:=zo p0;obtain ⟨z0,z1,z2,z3,z4⟩:=zA p0 (.int .i64 11) (.string (za t6.s)) (.int .i64 0) (.slice e0 e1 e2) (.int .i64 t.line)
    have HP:Hid (zQ r g w (.ok (.mk 11 t6.s 0 l t.line,us)) (.returned (.agg #[.int .i64 11,.string (za t6.s),.int .i64 0,.slice e0 e1 e2,.int .i64 t.line])) (set5 w13 w.heap.size (.int .i64 11) (.string (za t6.s)) (.int .i64 0) (.slice e0 e1 e2) (.int .i64 t.line))) :=
     zQ.of_set5 (B:=wc.heap.size) 11 t6.s 0 t.line hk13 (Nat.le_refl _) hr hgw hrow13 (by omega) hrd13
    clear hk12 p0 pB pC hrow hrd hrow13 hrd13 hk13 hkeep hw13 gf;go_wp2
    exact bodyPost_ret (v:=.agg #[.int .i64 11,.string (za t6.s),.int .i64 0,.slice e0 e1 e2,.int .i64 t.line]) (by simp [results,Tryz.results180,go_sem,z0,z1,z2,z3,z4]) rfl HP.out
 ·obtain rfl:R=.error t6.at0:=by rw [←hres];unfold zau;rw [if_neg h6]
  have cu':∀W:World,zc r w5 W→zh r g (o+5) (cap-1) (t6::ts6) W→Calls Tryz.prog 94 #[.pointer (some ⟨r,0,none⟩)] W fun e w'=>e=Z2 t6.at0∧zc r w w':=fun W hK hR=>(cb W hK hR).mono fun e w' h=>by
   obtain ⟨hk4,hpost⟩:=h;rw [if_neg h6] at hpost;exact ⟨hpost,HK2.out.trans (HK5.out.trans (hK.trans hk4))⟩
  clear cb hbr;go_wp2_with fail
  go_region_dies
  all_goals
   go_wp2_with fail
   refine (cu' _ ?_ ?_).mono ?_
   ·first | exact zc.drew r w5 | exact ((zc.refl r w5).alloc _).trans (zc.drew _ _)
   ·first | exact HR6.out.keep rfl rfl | exact (HR6.out.alloc _).keep rfl rfl
   ·rintro e w4 ⟨rfl,hk4⟩;exact ⟨rfl,hk4,rfl⟩
end Go.Proofs.YtpejpbbdgblbeaaGreatDoor
