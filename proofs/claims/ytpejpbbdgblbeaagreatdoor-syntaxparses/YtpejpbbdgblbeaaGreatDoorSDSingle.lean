import Derived.Test.YtpejpbbdgblbeaaGreatDoorMC37
namespace Go.Proofs.YtpejpbbdgblbeaaGreatDoor
open Go.RowKit Go.Shelf
set_option maxHeartbeats 16000000
set_option maxRecDepth 100000
theorem zc.far {r N:Nat} {w W:World} (h:zc r w W) (hN:w.heap.size≤N) (j:Nat) (v:Value):zc r w (W.setCell ⟨N,j,none⟩ v) :=
 ⟨h.os,h.tape,h.output,by simpa using h.size,fun k hk hr=>(Below.heap_setCell _ _ _ _ (by simp;omega)).trans (h.block k hk hr)⟩
theorem zz.far {r g N:Nat} {σ:RS} {W:World} (h:zz r g σ W) (hr:N≠r) (hg:N≠g) (j:Nat) (v:Value):zz r g σ (W.setCell ⟨N,j,none⟩ v) :=
 h.keep (Below.heap_setCell _ _ _ _ (by simp;omega)) (Below.heap_setCell _ _ _ _ (by simp;omega))
theorem Zo.alloc {r g:Nat} {w W:World} {q:Ex × RS} {e:Ending} (h:Zo r g w q e W) (ob:Obj):Zo r g w q e (W.alloc ob):=by
 obtain ⟨hk,v,rfl,hx,hr⟩:=h;exact ⟨hk.alloc _,v,rfl,ZO.kept hx (by simp) fun k _ hlt=>Below.heap_alloc _ _ _ hlt,hr.alloc _⟩
theorem Zo.drew {r g:Nat} {w W:World} {q:Ex × RS} {e:Ending} (h:Zo r g w q e W):Zo r g w q e W.drew:=by
 obtain ⟨hk,v,rfl,hx,hr⟩:=h;exact ⟨⟨hk.os,hk.tape,hk.output,hk.size,hk.block⟩,v,rfl,ZO.kept hx (Nat.le_refl _) fun k _ hlt=>rfl,hr.keep rfl rfl⟩
structure vj (r g N T:Nat) (w:World) (σ:RS) (c:Array Value) (t:Tk) (W:World):Prop where
 blkN:W.heap[N]?=some (.cells c 45 (0,0))
 blkT:W.heap[T]?=some (.cells #[.int .i64 t.k,.string (za t.s),.int .i64 t.n,.int .i64 t.line,.int .i64 t.at0] 66 (0,0))
 res:W.heap[w.heap.size]?=some ZA
 rd:zz r g σ W
 kept:zc r w W
 hN:w.heap.size<N
 hT:w.heap.size<T∧T≠N
theorem vj.moved {r g N T:Nat} {w W W':World} {σ σ':RS} {c:Array Value} {t:Tk} (h:vj r g N T w σ c t W) (hr:r<w.heap.size) (hK:zc r W W') (hrd:zz r g σ' W'):vj r g N T w σ' c t W' where
 blkN:=(hK.block _ (Array.getElem?_eq_some_iff.1 h.blkN).1 (by have:=h.hN;omega)).trans h.blkN
 blkT:=(hK.block _ (Array.getElem?_eq_some_iff.1 h.blkT).1 (by have:=h.hT;omega)).trans h.blkT
 res:=(hK.block _ (Array.getElem?_eq_some_iff.1 h.res).1 (by omega)).trans h.res
 rd:=hrd
 kept:=h.kept.trans hK
 hN:=h.hN
 hT:=h.hT
theorem vj.set {r g N T:Nat} {w W:World} {σ:RS} {c:Array Value} {t:Tk} (h:vj r g N T w σ c t W) (hr:r<w.heap.size) (hg:g<w.heap.size) (j:Nat) (v:Value):vj r g N T w σ (c.setIfInBounds j v) t (W.setCell ⟨N,j,none⟩ v) where
 blkN:=zm v h.blkN
 blkT:=(Below.heap_setCell _ _ _ _ (by have:=h.hT;simp;omega)).trans h.blkT
 res:=(Below.heap_setCell _ _ _ _ (by have:=h.hN;simp;omega)).trans h.res
 rd:=h.rd.far (by have:=h.hN;omega) (by have:=h.hN;omega) j v
 kept:=h.kept.far (Nat.le_of_lt h.hN) j v
 hN:=h.hN
 hT:=h.hT
theorem vj.drew {r g N T:Nat} {w W:World} {σ:RS} {c:Array Value} {t:Tk} (h:vj r g N T w σ c t W):vj r g N T w σ c t W.drew where
 blkN:=h.blkN
 blkT:=h.blkT
 res:=h.res
 rd:=h.rd.keep rfl rfl
 kept:=⟨h.kept.os,h.kept.tape,h.kept.output,h.kept.size,h.kept.block⟩
 hN:=h.hN
 hT:=h.hT
theorem vj.leave {r g N T B:Nat} {w W:World} {σ:RS} {c:Array Value} {t:Tk} (h:vj r g N T w σ c t W) (hr:r<w.heap.size) (hg:g<w.heap.size) (k:Nat) (s:List UInt8) (n:Int) (l:List Ex) (line:Nat) (v:Value) (hrow:yQ B W l v) (hB:w.heap.size<B) :
  Zo r g w (.mk k s n l line,σ) (.returned (.agg #[.int .i64 k,.string (za s),.int .i64 n,v,.int .i64 line])) (set5 W w.heap.size (.int .i64 k) (.string (za s)) (.int .i64 n) v (.int .i64 line)) :=
 Zo.of_set5 k s n line h.kept (Nat.le_refl _) hr hg hrow hB h.rd
theorem zgg (r g F:Nat) (σ:RS) (w:World) (q:Ex × RS) (h:zz r g σ w) (hq:Yk (F+1) σ=some q) (hex:yp r g F) (hli:zc3 r g F) :
  Calls Tryz.prog 190 #[.pointer (some ⟨r,0,none⟩)] w (Zo r g w q):=by
 obtain ⟨hr,hg⟩:=h.lt;obtain ⟨bd,ts⟩:=σ;have ct:=xO r g (bd,ts) (w.alloc ZA) (h.alloc _);obtain ⟨t,ht⟩:∃t,t=zx ts:=⟨_,rfl⟩;have HTT:Hid (t=zx ts):=ht;simp only at ct;rw [←ht] at ct;rw [Yk] at hq;simp only [←ht] at hq;have HQ:Hid (_=some q):=hq;have HH:Hid (zz r g (bd,ts) w):=h;have HEX:Hid (yp r g F):=hex;have HLI:Hid (zc3 r g F):=hli;clear ht h hex hli hq
 go_enter Tryz.func190,Tryz.ntmps190
 go_wp2_with fail
 refine ct.mono ?_;clear ct;rintro e w1 ⟨rfl,hb1⟩;have hs1:w.heap.size+1≤w1.heap.size:=by have:=hb1.size;simpa using this
 have p1:w1.heap[w.heap.size]?=some ZA:=(hb1.block _ (by simp)).trans (World.alloc_heap_new w _)
 have hA:vj r g (w1.heap.size+1) w1.heap.size w (bd,ts) #[.int .i64 0,.string ⟨#[]⟩,.int .i64 0,.slice none 0 0,.int .i64 t.line] t ((w1.alloc (.cells #[.int .i64 t.k,.string (za t.s),.int .i64 t.n,.int .i64 t.line,.int .i64 t.at0] 66)).alloc (.cells #[.int .i64 0,.string ⟨#[]⟩,.int .i64 0,.slice none 0 0,.int .i64 t.line] 45)):=by
  refine ⟨?_,?_,?_,(((HH.out.alloc _).below hb1).alloc _).alloc _,((((zc.refl r w).alloc _).trans (zc.of hb1)).alloc _).alloc _,by omega,by omega⟩
  ·have:=World.alloc_heap_new (w1.alloc (.cells #[.int .i64 t.k,.string (za t.s),.int .i64 t.n,.int .i64 t.line,.int .i64 t.at0] 66)) (.cells #[.int .i64 0,.string ⟨#[]⟩,.int .i64 0,.slice none 0 0,.int .i64 t.line] 45)
   simpa using this
  ·rw [Below.heap_alloc _ _ _ (by simp)]
   exact World.alloc_heap_new _ _
  ·rw [Below.heap_alloc _ _ _ (by simp;omega),Below.heap_alloc _ _ _ (by omega)]
   exact p1
 have HR1:Hid (zz r g (bd,ts) w1∧zc r w w1):=⟨(HH.out.alloc _).below hb1,((zc.refl r w).alloc _).trans (zc.of hb1)⟩;simp only [Xc];have HA:Hid (vj r g (w1.heap.size+1) w1.heap.size w (bd,ts) #[.int .i64 0,.string ⟨#[]⟩,.int .i64 0,.slice none 0 0,.int .i64 t.line] t ((w1.alloc (.cells #[.int .i64 t.k,.string (za t.s),.int .i64 t.n,.int .i64 t.line,.int .i64 t.at0] 66)).alloc (.cells #[.int .i64 0,.string ⟨#[]⟩,.int .i64 0,.slice none 0 0,.int .i64 t.line] 45))):=hA;obtain ⟨pp,cap,TS,hb⟩:=HR1.out.1;obtain ⟨m0,m1,m2,mf⟩:=ZN hb.blk;have hppl:pp≤1099511627776:=by have:=hb.lt;have:=hb.few;omega
 have HB:Hid (YW r g pp cap TS (bd,ts) w1):=hb;obtain ⟨y0,y1,y2,y3,y4,yf⟩:=zo p1;have HP1:Hid (w1.heap[w.heap.size]?=some ZA):=p1;clear hA hb hb1 HH p1;cases bd
 ·have HQ1:Hid ((if t.k=2 then some (Ex.mk 1 [] t.n [] t.line,(false,ts.tail)) else
    if t.k=3 then some (Ex.mk 3 t.s 0 [] t.line,(false,ts.tail)) else
    if zn t [116,114,117,101]=true then some (Ex.mk 2 [] 1 [] t.line,(false,ts.tail)) else
    if zn t [102,97,108,115,101]=true then some (Ex.mk 2 [] 0 [] t.line,(false,ts.tail)) else
    if zn t [110,101,119]=true then (Yf F [41] false (mustF [40] (nameF (false,ts.tail)).2)).bind fun l=>some (Ex.mk 11 (nameF (false,ts.tail)).1 0 l.1 t.line,l.2) else
    if zn t [91]=true then (Yf F [93] true (false,ts.tail)).bind fun l=>some (Ex.mk 10 [] 0 l.1 t.line,l.2) else
    if zn t [40]=true then (Z7 F 0 (false,ts.tail)).bind fun q=>some (q.1,mustF [41] q.2) else
    if t.k=1 then (if zn (zx ts.tail) [40]=true then (Yf F [41] false (false,ts.tail.tail)).bind fun l=>some (Ex.mk 5 t.s 0 l.1 t.line,l.2) else some (Ex.mk 4 t.s 0 [] t.line,(false,ts.tail)))
    else some (Ex.mk 0 [] 0 [] t.line,(true,ts)):Option (Ex × RS))=some q):=by
   have:=HQ.out
   rw [if_neg (by simp)] at this
   exact this
  clear HQ;have HIS:Hid (∀s,zO s (false,ts)=zn t s):=fun s=>by rw [Z4,←HTT.out]
  simp only at m2
  by_cases c2:t.k=2
  ·have hq3:=HQ1.out
   rw [if_pos c2] at hq3;obtain ⟨tk,tS,tn,tl,ta⟩:=t;simp only at c2;subst c2;have HQQ:Hid (q=(Ex.mk 1 [] tn [] tl,(false,ts.tail))):=(Option.some.inj hq3).symm;have HA2:Hid (vj r g (w1.heap.size+1) w1.heap.size w (false,ts) #[.int .i64 0,.string ⟨#[]⟩,.int .i64 0,.slice none 0 0,.int .i64 tl] ⟨2,tS,tn,tl,ta⟩ ((w1.alloc (.cells #[.int .i64 2,.string (za tS),.int .i64 tn,.int .i64 tl,.int .i64 ta] 66)).alloc (.cells #[.int .i64 0,.string ⟨#[]⟩,.int .i64 0,.slice none 0 0,.int .i64 tl] 45))):=HA.out;have hA3:∀ob ob',YW r g pp cap TS (false,ts) ((w1.alloc ob).alloc ob'):=fun ob ob'=>(HB.out.keep (Below.heap_alloc _ _ _ HR1.out.1.lt.1) (Below.heap_alloc _ _ _ HR1.out.1.lt.2)).keep (Below.heap_alloc _ _ _ (by have:=HR1.out.1.lt.1;simp;omega)) (Below.heap_alloc _ _ _ (by have:=HR1.out.1.lt.2;simp;omega))
   have HG:Hid (vj r g (w1.heap.size+1) w1.heap.size w (false,ts.tail) #[.int .i64 0,.string ⟨#[]⟩,.int .i64 0,.slice none 0 0,.int .i64 tl] ⟨2,tS,tn,tl,ta⟩ (((w1.alloc (.cells #[.int .i64 2,.string (za tS),.int .i64 tn,.int .i64 tl,.int .i64 ta] 66)).alloc (.cells #[.int .i64 0,.string ⟨#[]⟩,.int .i64 0,.slice none 0 0,.int .i64 tl] 45)).setCell ⟨r,1,none⟩ (.int .i64 ((pp:Int)+1)))):=HA2.out.moved hr ((zc.refl r _).setCell 1 _) ⟨_,_,_,(hA3 _ _).step (by show (zx ts).k≠0;rw [←HTT.out];exact Nat.succ_ne_zero _)⟩
   have m1'':=fun ob ob'=>(ZN (hA3 ob ob').blk).2.1
   have m2'':=fun ob ob'=>(ZN (hA3 ob ob').blk).2.2.1
   have mf'':=fun ob ob' j=>(ZN (hA3 ob ob').blk).2.2.2 j
   have hpA:∀ob ob',((w1.alloc ob).alloc ob').heap[w.heap.size]?=some ZA:=fun ob ob'=>by
    rw [Below.heap_alloc _ _ _ (by simp;omega),Below.heap_alloc _ _ _ (by omega)]
    exact HP1.out
   have y0'':=fun ob ob'=>(zo (hpA ob ob')).1
   have y1'':=fun ob ob'=>(zo (hpA ob ob')).2.1
   have y2'':=fun ob ob'=>(zo (hpA ob ob')).2.2.1
   have y3'':=fun ob ob'=>(zo (hpA ob ob')).2.2.2.1
   have y4'':=fun ob ob'=>(zo (hpA ob ob')).2.2.2.2.1
   have yf'':=fun ob ob' j=>(zo (hpA ob ob')).2.2.2.2.2 j
   have hwp:IntKind.i64.wrap ((pp:Int)+1)=(pp:Int)+1:=by rw [IntKind.wrap_i64];omega
   have hw9:¬ w.heap.size=w1.heap.size+1:=by omega
   have hr9:¬ r=w1.heap.size+1:=by have:=HR1.out.1.lt.1;omega
   have hr8:¬ r=w1.heap.size:=by have:=HR1.out.1.lt.1;omega
   clear hq3 HQ1 HIS HA HA2 hA3 hpA HP1;go_wp2_with fail
   go_region
   all_goals
    obtain ⟨z0,z1,z2,z3,z4⟩:=zA ((HG.out.set hr hg 0 (.int .i64 1)).set hr hg 2 (.int .i64 tn)).res (.int .i64 1) (.string (za [])) (.int .i64 tn) (.slice none 0 0) (.int .i64 tl);go_wp2
    clear m1'' m2'' mf'' y0'' y1'' y2'' y3'' y4'' yf'';refine bodyPost_ret (v:=.agg #[.int .i64 1,.string (za []),.int .i64 tn,.slice none 0 0,.int .i64 tl]) (by simp [results,Tryz.results190,go_sem,z0,z1,z2,z3,z4]) rfl ?_
    rw [HQQ.out]
    first
    | exact Zo.drew (((HG.out.set hr hg 0 (.int .i64 1)).set hr hg 2 (.int .i64 tn)).leave (B:=w.heap.size+1) hr hg 1 [] tn [] tl (.slice none 0 0) (.inl ⟨rfl,rfl⟩) (by omega))
    | exact Zo.drew (((HG.out.set hr hg 2 (.int .i64 tn)).set hr hg 0 (.int .i64 1)).leave (B:=w.heap.size+1) hr hg 1 [] tn [] tl (.slice none 0 0) (.inl ⟨rfl,rfl⟩) (by omega))
  by_cases c3:t.k=3
  ·have hq3:=HQ1.out
   rw [if_neg c2,if_pos c3] at hq3;obtain ⟨tk,tS,tn,tl,ta⟩:=t;simp only at c3;subst c3;have HQQ:Hid (q=(Ex.mk 3 tS 0 [] tl,(false,ts.tail))):=(Option.some.inj hq3).symm;have HA2:Hid (vj r g (w1.heap.size+1) w1.heap.size w (false,ts) #[.int .i64 0,.string ⟨#[]⟩,.int .i64 0,.slice none 0 0,.int .i64 tl] ⟨3,tS,tn,tl,ta⟩ ((w1.alloc (.cells #[.int .i64 3,.string (za tS),.int .i64 tn,.int .i64 tl,.int .i64 ta] 66)).alloc (.cells #[.int .i64 0,.string ⟨#[]⟩,.int .i64 0,.slice none 0 0,.int .i64 tl] 45))):=HA.out;have hA3:∀ob ob',YW r g pp cap TS (false,ts) ((w1.alloc ob).alloc ob'):=fun ob ob'=>(HB.out.keep (Below.heap_alloc _ _ _ HR1.out.1.lt.1) (Below.heap_alloc _ _ _ HR1.out.1.lt.2)).keep (Below.heap_alloc _ _ _ (by have:=HR1.out.1.lt.1;simp;omega)) (Below.heap_alloc _ _ _ (by have:=HR1.out.1.lt.2;simp;omega))
   have HG:Hid (vj r g (w1.heap.size+1) w1.heap.size w (false,ts.tail) #[.int .i64 0,.string ⟨#[]⟩,.int .i64 0,.slice none 0 0,.int .i64 tl] ⟨3,tS,tn,tl,ta⟩ (((w1.alloc (.cells #[.int .i64 3,.string (za tS),.int .i64 tn,.int .i64 tl,.int .i64 ta] 66)).alloc (.cells #[.int .i64 0,.string ⟨#[]⟩,.int .i64 0,.slice none 0 0,.int .i64 tl] 45)).setCell ⟨r,1,none⟩ (.int .i64 ((pp:Int)+1)))):=HA2.out.moved hr ((zc.refl r _).setCell 1 _) ⟨_,_,_,(hA3 _ _).step (by show (zx ts).k≠0;rw [←HTT.out];exact Nat.succ_ne_zero _)⟩
   have m1'':=fun ob ob'=>(ZN (hA3 ob ob').blk).2.1
   have m2'':=fun ob ob'=>(ZN (hA3 ob ob').blk).2.2.1
   have mf'':=fun ob ob' j=>(ZN (hA3 ob ob').blk).2.2.2 j
   have hpA:∀ob ob',((w1.alloc ob).alloc ob').heap[w.heap.size]?=some ZA:=fun ob ob'=>by
    rw [Below.heap_alloc _ _ _ (by simp;omega),Below.heap_alloc _ _ _ (by omega)]
    exact HP1.out
   have y0'':=fun ob ob'=>(zo (hpA ob ob')).1
   have y1'':=fun ob ob'=>(zo (hpA ob ob')).2.1
   have y2'':=fun ob ob'=>(zo (hpA ob ob')).2.2.1
   have y3'':=fun ob ob'=>(zo (hpA ob ob')).2.2.2.1
   have y4'':=fun ob ob'=>(zo (hpA ob ob')).2.2.2.2.1
   have yf'':=fun ob ob' j=>(zo (hpA ob ob')).2.2.2.2.2 j
   have hwp:IntKind.i64.wrap ((pp:Int)+1)=(pp:Int)+1:=by rw [IntKind.wrap_i64];omega
   have hw9:¬ w.heap.size=w1.heap.size+1:=by omega
   have hr9:¬ r=w1.heap.size+1:=by have:=HR1.out.1.lt.1;omega
   have hr8:¬ r=w1.heap.size:=by have:=HR1.out.1.lt.1;omega
   clear hq3 HQ1 HIS HA HA2 hA3 hpA HP1;go_wp2_with fail
   go_region
   all_goals
    obtain ⟨z0,z1,z2,z3,z4⟩:=zA ((HG.out.set hr hg 0 (.int .i64 3)).set hr hg 1 (.string (za tS))).res (.int .i64 3) (.string (za tS)) (.int .i64 0) (.slice none 0 0) (.int .i64 tl);go_wp2
    clear m1'' m2'' mf'' y0'' y1'' y2'' y3'' y4'' yf'';refine bodyPost_ret (v:=.agg #[.int .i64 3,.string (za tS),.int .i64 0,.slice none 0 0,.int .i64 tl]) (by simp [results,Tryz.results190,go_sem,z0,z1,z2,z3,z4]) rfl ?_
    rw [HQQ.out]
    first
    | exact Zo.drew (((HG.out.set hr hg 0 (.int .i64 3)).set hr hg 1 (.string (za tS))).leave (B:=w.heap.size+1) hr hg 3 tS 0 [] tl (.slice none 0 0) (.inl ⟨rfl,rfl⟩) (by omega))
    | exact Zo.drew (((HG.out.set hr hg 1 (.string (za tS))).set hr hg 0 (.int .i64 3)).leave (B:=w.heap.size+1) hr hg 3 tS 0 [] tl (.slice none 0 0) (.inl ⟨rfl,rfl⟩) (by omega))
  have hq2:=HQ1.out;rw [if_neg c2,if_neg c3] at hq2;have HQ2:Hid (_=some q):=hq2;have k2:¬ (t.k:Int)=2:=by omega
  have k3:¬ (t.k:Int)=3:=by omega
  have k2b:((t.k:Int)==2)=false:=by rw [beq_eq_false_iff_ne];exact k2
  have k3b:((t.k:Int)==3)=false:=by rw [beq_eq_false_iff_ne];exact k3
  have cs:=Zd r g (false,ts) [116,114,117,101] _ HA.out.rd;have m2':=fun ob=>ze m2 ob
  have m2'':=fun ob ob'=>ze (m2' ob) ob'
  clear HQ1 c2 c3 hq2
  by_cases hi:zO [116,114,117,101] (false,ts)=true
  ·rw [hi,ZD hi] at cs
   simp only at cs;have hq3:=HQ2.out;rw [if_pos (by rw [←HIS.out];exact hi)] at hq3
   go_wp2_with fail
   refine cs.mono ?_;clear cs;rintro e wB ⟨rfl,hkwB,hrwB⟩;have hCwB:=HA.out.moved hr hkwB hrwB;obtain ⟨N,hN⟩:∃N,N=w1.heap.size+1:=⟨_,rfl⟩;obtain ⟨T,hT⟩:∃T,T=w1.heap.size:=⟨_,rfl⟩;have hTT:w1.heap.size=T:=hT.symm;rw [←hN,hTT] at hCwB ⊢;have HwB:Hid (vj r g N T w (false,ts.tail) #[.int .i64 0,.string ⟨#[]⟩,.int .i64 0,.slice none 0 0,.int .i64 t.line] t wB):=hCwB;clear hN hT hTT hCwB hkwB hrwB HA HR1 HB HP1 m0 m1 m2 m2' m2'' mf y0 y1 y2 y3 y4 yf hs1 hppl k2 k3 k2b k3b;have HQQ:Hid (q=(Ex.mk 2 [] 1 [] t.line,(false,ts.tail))):=(Option.some.inj hq3).symm;clear hq3 HQ2 HIS hi;obtain ⟨n0,n1,n2,n3,n4,nf⟩:=zo HwB.out.blkN;obtain ⟨x0,x1,x2,x3,x4,xf⟩:=zo HwB.out.res;obtain ⟨d0,d1,d2,d3,d4,df⟩:=zo HwB.out.blkT;have hNe:¬ w.heap.size=N:=by have:=HwB.out.hN;omega
   have hCE:=((HwB.out.set hr hg 0 (.int .i64 2)).set hr hg 2 (.int .i64 1));obtain ⟨z0,z1,z2,z3,z4⟩:=zA hCE.res (.int .i64 2) (.string ⟨#[]⟩) (.int .i64 1) (.slice none 0 0) (.int .i64 t.line)
   have HP:Hid (Zo r g w q (.returned (.agg #[.int .i64 2,.string ⟨#[]⟩,.int .i64 1,.slice none 0 0,.int .i64 t.line])) (set5 ((wB.setCell ⟨N,0,none⟩ (.int .i64 2)).setCell ⟨N,2,none⟩ (.int .i64 1)) w.heap.size (.int .i64 2) (.string ⟨#[]⟩) (.int .i64 1) (.slice none 0 0) (.int .i64 t.line))):=by
    have:=hCE.leave (B:=w.heap.size+1) hr hg 2 [] 1 [] t.line (.slice none 0 0) (.inl ⟨rfl,rfl⟩) (by have:=HwB.out.hN;omega)
    rw [HQQ.out];exact this
   clear hCE;go_wp2
   exact bodyPost_ret (v:=.agg #[.int .i64 2,.string ⟨#[]⟩,.int .i64 1,.slice none 0 0,.int .i64 t.line]) (by simp [results,Tryz.results190,go_sem,z0,z1,z2,z3,z4]) rfl HP.out
  have hi':zO [116,114,117,101] (false,ts)=false:=by simpa using hi
  rw [hi',zW hi'] at cs;have hq2:=HQ2.out;rw [if_neg (by rw [←HIS.out];exact hi)] at hq2
  clear HQ2;have HQ2:Hid (_=some q):=hq2;clear hq2 hi hi';go_wp2_with fail
  refine cs.mono ?_;clear cs;rintro e wA0 ⟨rfl,hkwA0,hrwA0⟩;have hCwA0:=HA.out.moved hr hkwA0 hrwA0;obtain ⟨N,hN⟩:∃N,N=w1.heap.size+1:=⟨_,rfl⟩;obtain ⟨T,hT⟩:∃T,T=w1.heap.size:=⟨_,rfl⟩;have hTT:w1.heap.size=T:=hT.symm;rw [←hN,hTT] at hCwA0 ⊢;have HwA0:Hid (vj r g N T w (false,ts) #[.int .i64 0,.string ⟨#[]⟩,.int .i64 0,.slice none 0 0,.int .i64 t.line] t wA0):=hCwA0;clear hN hT hTT hCwA0 hkwA0 hrwA0 HA HR1 HB HP1 m0 m1 m2 m2' m2'' mf y0 y1 y2 y3 y4 yf hs1 hppl k2 k3 k2b k3b;have cs:=Zd r g (false,ts) [102,97,108,115,101] wA0 HwA0.out.rd
  by_cases hi:zO [102,97,108,115,101] (false,ts)=true
  ·rw [hi,ZD hi] at cs
   simp only at cs;have hq3:=HQ2.out;rw [if_pos (by rw [←HIS.out];exact hi)] at hq3
   go_wp2_with fail
   refine cs.mono ?_;clear cs;rintro e wB ⟨rfl,hkwB,hrwB⟩;have HwB:Hid (vj r g N T w (false,ts.tail) #[.int .i64 0,.string ⟨#[]⟩,.int .i64 0,.slice none 0 0,.int .i64 t.line] t wB):=HwA0.out.moved hr hkwB hrwB;clear hkwB hrwB HwA0;have HQQ:Hid (q=(Ex.mk 2 [] 0 [] t.line,(false,ts.tail))):=(Option.some.inj hq3).symm;clear hq3 HQ2 HIS hi;obtain ⟨n0,n1,n2,n3,n4,nf⟩:=zo HwB.out.blkN;obtain ⟨x0,x1,x2,x3,x4,xf⟩:=zo HwB.out.res;obtain ⟨d0,d1,d2,d3,d4,df⟩:=zo HwB.out.blkT;have hNe:¬ w.heap.size=N:=by have:=HwB.out.hN;omega
   have hCE:=(HwB.out.set hr hg 0 (.int .i64 2));obtain ⟨z0,z1,z2,z3,z4⟩:=zA hCE.res (.int .i64 2) (.string ⟨#[]⟩) (.int .i64 0) (.slice none 0 0) (.int .i64 t.line)
   have HP:Hid (Zo r g w q (.returned (.agg #[.int .i64 2,.string ⟨#[]⟩,.int .i64 0,.slice none 0 0,.int .i64 t.line])) (set5 (wB.setCell ⟨N,0,none⟩ (.int .i64 2)) w.heap.size (.int .i64 2) (.string ⟨#[]⟩) (.int .i64 0) (.slice none 0 0) (.int .i64 t.line))):=by
    have:=hCE.leave (B:=w.heap.size+1) hr hg 2 [] 0 [] t.line (.slice none 0 0) (.inl ⟨rfl,rfl⟩) (by have:=HwB.out.hN;omega)
    rw [HQQ.out];exact this
   clear hCE;go_wp2
   exact bodyPost_ret (v:=.agg #[.int .i64 2,.string ⟨#[]⟩,.int .i64 0,.slice none 0 0,.int .i64 t.line]) (by simp [results,Tryz.results190,go_sem,z0,z1,z2,z3,z4]) rfl HP.out
  have hi':zO [102,97,108,115,101] (false,ts)=false:=by simpa using hi
  rw [hi',zW hi'] at cs;have hq2:=HQ2.out;rw [if_neg (by rw [←HIS.out];exact hi)] at hq2
  clear HQ2;have HQ2:Hid (_=some q):=hq2;clear hq2 hi hi';go_wp2_with fail
  refine cs.mono ?_;clear cs;rintro e wA1 ⟨rfl,hkwA1,hrwA1⟩;have HwA1:Hid (vj r g N T w (false,ts) #[.int .i64 0,.string ⟨#[]⟩,.int .i64 0,.slice none 0 0,.int .i64 t.line] t wA1):=HwA0.out.moved hr hkwA1 hrwA1;clear hkwA1 hrwA1 HwA0;have cs:=Zd r g (false,ts) [110,101,119] wA1 HwA1.out.rd
  by_cases hi:zO [110,101,119] (false,ts)=true
  ·rw [hi,ZD hi] at cs
   simp only at cs;have hq3:=HQ2.out;rw [if_pos (by rw [←HIS.out];exact hi)] at hq3
   go_wp2_with fail
   refine cs.mono ?_;clear cs;rintro e wB ⟨rfl,hkwB,hrwB⟩;have HwB:Hid (vj r g N T w (false,ts.tail) #[.int .i64 0,.string ⟨#[]⟩,.int .i64 0,.slice none 0 0,.int .i64 t.line] t wB):=HwA1.out.moved hr hkwB hrwB;clear hkwB hrwB HwA1;obtain ⟨ql,hq4,hq5⟩:=Option.bind_eq_some_iff.1 hq3;have cn:=V3 r g (false,ts.tail) wB HwB.out.rd;generalize nameF (false,ts.tail)=qn at *;have HQQ:Hid (q=(Ex.mk 11 qn.1 0 ql.1 t.line,ql.2)):=(Option.some.inj hq5).symm;clear hq3 hq5 HQ2 HIS hi;go_wp2_with fail
   refine cn.mono ?_;clear cn;rintro e wC ⟨rfl,hkC,hrC⟩;have HwC:Hid (vj r g N T w qn.2 #[.int .i64 0,.string ⟨#[]⟩,.int .i64 0,.slice none 0 0,.int .i64 t.line] t wC):=HwB.out.moved hr hkC hrC;clear hkC hrC;obtain ⟨n0,n1,n2,n3,n4,nf⟩:=zo HwC.out.blkN;have HwC2:Hid (vj r g N T w qn.2 #[.int .i64 11,.string (za qn.1),.int .i64 0,.slice none 0 0,.int .i64 t.line] t ((wC.setCell ⟨N,0,none⟩ (.int .i64 11)).setCell ⟨N,1,none⟩ (.string (za qn.1)))):=(HwC.out.set hr hg 0 (.int .i64 11)).set hr hg 1 (.string (za qn.1));have cm:=yD r g qn.2 [40] _ HwC2.out.rd;clear HwB;go_wp2_with fail
   refine cm.mono ?_;clear cm n0 n1 n2 n3 n4 nf;rintro e wD ⟨rfl,hkD,hrD⟩;have HwD:Hid (vj r g N T w (mustF [40] qn.2) #[.int .i64 11,.string (za qn.1),.int .i64 0,.slice none 0 0,.int .i64 t.line] t wD):=HwC2.out.moved hr hkD hrD;clear hkD hrD HwC HwC2;have cl:=HLI.out F (Nat.le_refl _) [41] false _ ql wD hq4 HwD.out.rd;go_wp2_with fail
   refine cl.mono ?_;clear cl;rintro e wE ⟨hkE,v,rfl,hrow,hrE⟩;obtain ⟨v0,v1,v2,rfl⟩:=zv.slice hrow;have HwE:Hid (vj r g N T w ql.2 #[.int .i64 11,.string (za qn.1),.int .i64 0,.slice none 0 0,.int .i64 t.line] t wE):=HwD.out.moved hr hkE hrE;have hND:N<wD.heap.size:=(Array.getElem?_eq_some_iff.1 HwD.out.blkN).1;have HROW:Hid (yQ wD.heap.size (wE.setCell ⟨N,3,none⟩ (.slice v0 v1 v2)) ql.1 (.slice v0 v1 v2)):=zv.kept hrow (by simp) fun k hk _=>Below.heap_setCell _ _ _ _ (by simp;omega)
   clear hkE hrow hrE hq4;obtain ⟨n0,n1,n2,n3,n4,nf⟩:=zo HwE.out.blkN;obtain ⟨x0,x1,x2,x3,x4,xf⟩:=zo HwE.out.res;obtain ⟨d0,d1,d2,d3,d4,df⟩:=zo HwE.out.blkT;have hNe:¬ w.heap.size=N:=by have:=HwE.out.hN;omega
   have hCE:=(HwE.out.set hr hg 3 (.slice v0 v1 v2));obtain ⟨z0,z1,z2,z3,z4⟩:=zA hCE.res (.int .i64 11) (.string (za qn.1)) (.int .i64 0) (.slice v0 v1 v2) (.int .i64 t.line)
   have HP:Hid (Zo r g w q (.returned (.agg #[.int .i64 11,.string (za qn.1),.int .i64 0,.slice v0 v1 v2,.int .i64 t.line])) (set5 (wE.setCell ⟨N,3,none⟩ (.slice v0 v1 v2)) w.heap.size (.int .i64 11) (.string (za qn.1)) (.int .i64 0) (.slice v0 v1 v2) (.int .i64 t.line))):=by
    have:=hCE.leave (B:=wD.heap.size) hr hg 11 qn.1 0 ql.1 t.line (.slice v0 v1 v2) (HROW.out) (by have:=HwE.out.hN;omega)
    rw [HQQ.out];exact this
   clear hCE;go_wp2
   exact bodyPost_ret (v:=.agg #[.int .i64 11,.string (za qn.1),.int .i64 0,.slice v0 v1 v2,.int .i64 t.line]) (by simp [results,Tryz.results190,go_sem,z0,z1,z2,z3,z4]) rfl HP.out
  have hi':zO [110,101,119] (false,ts)=false:=by simpa using hi
  rw [hi',zW hi'] at cs;have hq2:=HQ2.out;rw [if_neg (by rw [←HIS.out];exact hi)] at hq2
  clear HQ2;have HQ2:Hid (_=some q):=hq2;clear hq2 hi hi';go_wp2_with fail
  refine cs.mono ?_;clear cs;rintro e wA2 ⟨rfl,hkwA2,hrwA2⟩;have HwA2:Hid (vj r g N T w (false,ts) #[.int .i64 0,.string ⟨#[]⟩,.int .i64 0,.slice none 0 0,.int .i64 t.line] t wA2):=HwA1.out.moved hr hkwA2 hrwA2;clear hkwA2 hrwA2 HwA1;have cs:=Zd r g (false,ts) [91] wA2 HwA2.out.rd
  by_cases hi:zO [91] (false,ts)=true
  ·rw [hi,ZD hi] at cs
   simp only at cs;have hq3:=HQ2.out;rw [if_pos (by rw [←HIS.out];exact hi)] at hq3
   go_wp2_with fail
   refine cs.mono ?_;clear cs;rintro e wB ⟨rfl,hkwB,hrwB⟩;have HwB:Hid (vj r g N T w (false,ts.tail) #[.int .i64 0,.string ⟨#[]⟩,.int .i64 0,.slice none 0 0,.int .i64 t.line] t wB):=HwA2.out.moved hr hkwB hrwB;clear hkwB hrwB HwA2;obtain ⟨ql,hq4,hq5⟩:=Option.bind_eq_some_iff.1 hq3;have HQQ:Hid (q=(Ex.mk 10 [] 0 ql.1 t.line,ql.2)):=(Option.some.inj hq5).symm;have cl:=HLI.out F (Nat.le_refl _) [93] true _ ql wB hq4 HwB.out.rd;clear hq3 hq5 HQ2 HIS hi;go_wp2_with fail
   refine cl.mono ?_;clear cl;rintro e wE ⟨hkE,v,rfl,hrow,hrE⟩;obtain ⟨v0,v1,v2,rfl⟩:=zv.slice hrow;have HwE:Hid (vj r g N T w ql.2 #[.int .i64 0,.string ⟨#[]⟩,.int .i64 0,.slice none 0 0,.int .i64 t.line] t wE):=HwB.out.moved hr hkE hrE;have hND:N<wB.heap.size:=(Array.getElem?_eq_some_iff.1 HwB.out.blkN).1;have HROW:Hid (yQ wB.heap.size ((wE.setCell ⟨N,0,none⟩ (.int .i64 10)).setCell ⟨N,3,none⟩ (.slice v0 v1 v2)) ql.1 (.slice v0 v1 v2)):=zv.kept hrow (by simp) fun k hk _=>(Below.heap_setCell _ _ _ _ (by simp;omega)).trans (Below.heap_setCell _ _ _ _ (by simp;omega))
   clear hkE hrow hrE hq4;obtain ⟨n0,n1,n2,n3,n4,nf⟩:=zo HwE.out.blkN;obtain ⟨x0,x1,x2,x3,x4,xf⟩:=zo HwE.out.res;obtain ⟨d0,d1,d2,d3,d4,df⟩:=zo HwE.out.blkT;have hNe:¬ w.heap.size=N:=by have:=HwE.out.hN;omega
   have hCE:=((HwE.out.set hr hg 0 (.int .i64 10)).set hr hg 3 (.slice v0 v1 v2));obtain ⟨z0,z1,z2,z3,z4⟩:=zA hCE.res (.int .i64 10) (.string ⟨#[]⟩) (.int .i64 0) (.slice v0 v1 v2) (.int .i64 t.line)
   have HP:Hid (Zo r g w q (.returned (.agg #[.int .i64 10,.string ⟨#[]⟩,.int .i64 0,.slice v0 v1 v2,.int .i64 t.line])) (set5 ((wE.setCell ⟨N,0,none⟩ (.int .i64 10)).setCell ⟨N,3,none⟩ (.slice v0 v1 v2)) w.heap.size (.int .i64 10) (.string ⟨#[]⟩) (.int .i64 0) (.slice v0 v1 v2) (.int .i64 t.line))):=by
    have:=hCE.leave (B:=wB.heap.size) hr hg 10 [] 0 ql.1 t.line (.slice v0 v1 v2) (HROW.out) (by have:=HwE.out.hN;omega)
    rw [HQQ.out];exact this
   clear hCE;go_wp2
   exact bodyPost_ret (v:=.agg #[.int .i64 10,.string ⟨#[]⟩,.int .i64 0,.slice v0 v1 v2,.int .i64 t.line]) (by simp [results,Tryz.results190,go_sem,z0,z1,z2,z3,z4]) rfl HP.out
  have hi':zO [91] (false,ts)=false:=by simpa using hi
  rw [hi',zW hi'] at cs;have hq2:=HQ2.out;rw [if_neg (by rw [←HIS.out];exact hi)] at hq2
  clear HQ2;have HQ2:Hid (_=some q):=hq2;clear hq2 hi hi';go_wp2_with fail
  refine cs.mono ?_;clear cs;rintro e wA3 ⟨rfl,hkwA3,hrwA3⟩;have HwA3:Hid (vj r g N T w (false,ts) #[.int .i64 0,.string ⟨#[]⟩,.int .i64 0,.slice none 0 0,.int .i64 t.line] t wA3):=HwA2.out.moved hr hkwA3 hrwA3;clear hkwA3 hrwA3 HwA2;have cs:=Zd r g (false,ts) [40] wA3 HwA3.out.rd
  by_cases hi:zO [40] (false,ts)=true
  ·rw [hi,ZD hi] at cs
   simp only at cs;have hq3:=HQ2.out;rw [if_pos (by rw [←HIS.out];exact hi)] at hq3
   go_wp2_with fail
   refine cs.mono ?_;clear cs;rintro e wB ⟨rfl,hkwB,hrwB⟩;have HwB:Hid (vj r g N T w (false,ts.tail) #[.int .i64 0,.string ⟨#[]⟩,.int .i64 0,.slice none 0 0,.int .i64 t.line] t wB):=HwA3.out.moved hr hkwB hrwB;clear hkwB hrwB HwA3;obtain ⟨qe,hq4,hq5⟩:=Option.bind_eq_some_iff.1 hq3;have HQQ:Hid (q=(qe.1,mustF [41] qe.2)):=(Option.some.inj hq5).symm;have ce:Calls Tryz.prog 139 #[.pointer (some ⟨r,0,none⟩),.int .i64 0] wB (Zo r g wB qe):=HEX.out F (Nat.le_refl _) 0 _ qe wB (by omega) hq4 HwB.out.rd
   clear hq3 hq5 HQ2 HIS hi hq4;go_wp2_with fail
   refine ce.mono ?_;clear ce;rintro e wC ⟨hkC,v,rfl,hx,hrC⟩;obtain ⟨a,b,c,d0,d1,d2,l,rfl⟩:=hx.agg;have HwC:Hid (vj r g N T w qe.2 #[.int .i64 0,.string ⟨#[]⟩,.int .i64 0,.slice none 0 0,.int .i64 t.line] t wC):=HwB.out.moved hr hkC hrC;have HwC2:Hid (vj r g N T w qe.2 #[.int .i64 a,.string b,.int .i64 c,.slice d0 d1 d2,.int .i64 l] t (set5 wC N (.int .i64 a) (.string b) (.int .i64 c) (.slice d0 d1 d2) (.int .i64 l))):=((((HwC.out.set hr hg 0 (.int .i64 a)).set hr hg 1 (.string b)).set hr hg 2 (.int .i64 c)).set hr hg 3 (.slice d0 d1 d2)).set hr hg 4 (.int .i64 l);have hNB:N<wB.heap.size:=(Array.getElem?_eq_some_iff.1 HwB.out.blkN).1;have HX2:Hid (ZO wB.heap.size (set5 wC N (.int .i64 a) (.string b) (.int .i64 c) (.slice d0 d1 d2) (.int .i64 l)) qe.1 (.agg #[.int .i64 a,.string b,.int .i64 c,.slice d0 d1 d2,.int .i64 l])):=ZO.kept hx (by simp) fun k hk _=>zw _ _ _ _ _ _ _ (by omega)
   obtain ⟨n0,n1,n2,n3,n4,nf⟩:=zo HwC.out.blkN;have cm:=yD r g qe.2 [41] _ HwC2.out.rd;clear hkC hrC hx;go_wp2_with fail
   refine cm.mono ?_;clear cm n0 n1 n2 n3 n4 nf;rintro e wD ⟨rfl,hkD,hrD⟩;have HwD:Hid (vj r g N T w (mustF [41] qe.2) #[.int .i64 a,.string b,.int .i64 c,.slice d0 d1 d2,.int .i64 l] t wD):=HwC2.out.moved hr hkD hrD;have hwB:w.heap.size<wB.heap.size:=(Array.getElem?_eq_some_iff.1 HwB.out.res).1;have hx4:ZO wB.heap.size wD qe.1 (.agg #[.int .i64 a,.string b,.int .i64 c,.slice d0 d1 d2,.int .i64 l]):=ZO.kept HX2.out hkD.size fun k hk hlt=>hkD.block k hlt (by omega)
   have HP:Hid (Zo r g w q (.returned (.agg #[.int .i64 a,.string b,.int .i64 c,.slice d0 d1 d2,.int .i64 l])) (set5 wD w.heap.size (.int .i64 a) (.string b) (.int .i64 c) (.slice d0 d1 d2) (.int .i64 l))):=by
    have:=Zo.of_set5' HwD.out.kept (Nat.le_refl _) hr hg hx4 hwB hrD
    rw [HQQ.out];exact this
   obtain ⟨n0,n1,n2,n3,n4,nf⟩:=zo HwD.out.blkN;obtain ⟨x0,x1,x2,x3,x4,xf⟩:=zo HwD.out.res;obtain ⟨z0,z1,z2,z3,z4⟩:=zA HwD.out.res (.int .i64 a) (.string b) (.int .i64 c) (.slice d0 d1 d2) (.int .i64 l);clear hkD hrD HwC HwC2 HwB HX2 hx4 HwD hNB hwB;go_wp2
   exact bodyPost_ret (v:=.agg #[.int .i64 a,.string b,.int .i64 c,.slice d0 d1 d2,.int .i64 l]) (by simp [results,Tryz.results190,go_sem,z0,z1,z2,z3,z4]) rfl HP.out
  have hi':zO [40] (false,ts)=false:=by simpa using hi
  rw [hi',zW hi'] at cs;have hq2:=HQ2.out;rw [if_neg (by rw [←HIS.out];exact hi)] at hq2
  clear HQ2;have HQ2:Hid (_=some q):=hq2;clear hq2 hi hi';go_wp2_with fail
  refine cs.mono ?_;clear cs;rintro e wA4 ⟨rfl,hkwA4,hrwA4⟩;have HwA4:Hid (vj r g N T w (false,ts) #[.int .i64 0,.string ⟨#[]⟩,.int .i64 0,.slice none 0 0,.int .i64 t.line] t wA4):=HwA3.out.moved hr hkwA4 hrwA4;clear hkwA4 hrwA4 HwA3;obtain ⟨pp,cap,TS,hb⟩:=HwA4.out.rd;obtain ⟨m0,m1,m2,mf⟩:=ZN hb.blk;have hppl:pp≤1099511627776:=by have:=hb.lt;have:=hb.few;omega
  have HB:Hid (YW r g pp cap TS (false,ts) wA4):=hb;obtain ⟨d0,d1,d2,d3,d4,df⟩:=zo HwA4.out.blkT;obtain ⟨n0,n1,n2,n3,n4,nf⟩:=zo HwA4.out.blkN;have hNT:¬ T=N:=HwA4.out.hT.2;have hrN:¬ r=N:=by have:=HwA4.out.hN;omega
  have hrT:¬ r=T:=by have:=HwA4.out.hT;omega
  clear hb
  by_cases c1:t.k=1
  ·have hq3:=HQ2.out
   rw [if_pos c1] at hq3;have HQ3:Hid (_=some q):=hq3;have k1:(t.k:Int)=1:=by omega
   have HwG:Hid (vj r g N T w (false,ts.tail) #[.int .i64 0,.string ⟨#[]⟩,.int .i64 0,.slice none 0 0,.int .i64 t.line] t (wA4.setCell ⟨r,1,none⟩ (.int .i64 ((pp:Int)+1)))):=HwA4.out.moved hr ((zc.refl r wA4).setCell 1 _) ⟨_,_,_,HB.out.step (by show (zx ts).k≠0;rw [←HTT.out];omega)⟩
   have hT1:∀W,vj r g N T w (false,ts.tail) #[.int .i64 4,.string (za t.s),.int .i64 0,.slice none 0 0,.int .i64 t.line] t W→Calls Tryz.prog 59 #[.pointer (some ⟨r,0,none⟩),.string (za [40])] W fun e w'=>e=.returned (.bool (zO [40] (false,ts.tail)))∧zc r W w'∧zz r g (y9 [40] (false,ts.tail)) w':=fun W hW=>Zd r g (false,ts.tail) [40] W hW.rd
   have hi40:zO [40] (false,ts.tail)=zn (zx ts.tail) [40]:=Z4 _ _;clear hq3 HQ2 HIS HwA4 HB
   by_cases hi:zO [40] (false,ts.tail)=true
   ·rw [hi,ZD hi] at hT1
    have hq4:=HQ3.out;rw [if_pos (by rw [←hi40];exact hi)] at hq4
    obtain ⟨ql,hq5,hq6⟩:=Option.bind_eq_some_iff.1 hq4;have HQQ:Hid (q=(Ex.mk 5 t.s 0 ql.1 t.line,ql.2)):=(Option.some.inj hq6).symm;have HQ5:Hid (Yf F [41] false (false,ts.tail.tail)=some ql):=hq5;simp only at hT1;clear hi hi40 hq4 hq5 hq6 HQ3;go_wp2_with fail
    go_region
    all_goals
     go_wp2_with fail
     refine (hT1 _ (by first | exact ((HwG.out.set hr hg 0 (.int .i64 4)).set hr hg 1 (.string (za t.s))).drew | exact ((HwG.out.set hr hg 1 (.string (za t.s))).set hr hg 0 (.int .i64 4)).drew)).mono ?_
     rintro e wB ⟨rfl,hkB,hrB⟩
     have HwB:Hid (vj r g N T w (false,ts.tail.tail) #[.int .i64 4,.string (za t.s),.int .i64 0,.slice none 0 0,.int .i64 t.line] t wB):=by
      first
      | exact (((HwG.out.set hr hg 0 (.int .i64 4)).set hr hg 1 (.string (za t.s))).drew).moved hr hkB hrB
      | exact (((HwG.out.set hr hg 1 (.string (za t.s))).set hr hg 0 (.int .i64 4)).drew).moved hr hkB hrB
     have cl:=HLI.out F (Nat.le_refl _) [41] false _ ql wB HQ5.out HwB.out.rd;clear hT1 hkB hrB HwG m0 m1 m2 mf hppl d0 d1 d2 d3 d4 df n0 n1 n2 n3 n4 nf k1;go_wp2_with fail
     refine cl.mono ?_;clear cl;rintro e wE ⟨hkE,v,rfl,hrow,hrE⟩;obtain ⟨v0,v1,v2,rfl⟩:=zv.slice hrow;have HwE:Hid (vj r g N T w ql.2 #[.int .i64 4,.string (za t.s),.int .i64 0,.slice none 0 0,.int .i64 t.line] t wE):=HwB.out.moved hr hkE hrE;have hND:N<wB.heap.size:=(Array.getElem?_eq_some_iff.1 HwB.out.blkN).1;have HROW:Hid (yQ wB.heap.size ((wE.setCell ⟨N,0,none⟩ (.int .i64 5)).setCell ⟨N,3,none⟩ (.slice v0 v1 v2)) ql.1 (.slice v0 v1 v2)):=zv.kept hrow (by simp) fun k hk _=>(Below.heap_setCell _ _ _ _ (by simp;omega)).trans (Below.heap_setCell _ _ _ _ (by simp;omega))
     have hwB:w.heap.size<wB.heap.size:=(Array.getElem?_eq_some_iff.1 HwB.out.res).1;clear hkE hrow hrE HQ5;obtain ⟨n0,n1,n2,n3,n4,nf⟩:=zo HwE.out.blkN;obtain ⟨x0,x1,x2,x3,x4,xf⟩:=zo HwE.out.res;obtain ⟨d0,d1,d2,d3,d4,df⟩:=zo HwE.out.blkT;have hNe:¬ w.heap.size=N:=by have:=HwE.out.hN;omega
     have hCE:=((HwE.out.set hr hg 0 (.int .i64 5)).set hr hg 3 (.slice v0 v1 v2));obtain ⟨z0,z1,z2,z3,z4⟩:=zA hCE.res (.int .i64 5) (.string (za t.s)) (.int .i64 0) (.slice v0 v1 v2) (.int .i64 t.line)
     have HP:Hid (Zo r g w q (.returned (.agg #[.int .i64 5,.string (za t.s),.int .i64 0,.slice v0 v1 v2,.int .i64 t.line])) (set5 ((wE.setCell ⟨N,0,none⟩ (.int .i64 5)).setCell ⟨N,3,none⟩ (.slice v0 v1 v2)) w.heap.size (.int .i64 5) (.string (za t.s)) (.int .i64 0) (.slice v0 v1 v2) (.int .i64 t.line))):=by
      have:=hCE.leave (B:=wB.heap.size) hr hg 5 t.s 0 ql.1 t.line (.slice v0 v1 v2) (HROW.out) (by have:=HwE.out.hN;omega)
      rw [HQQ.out];exact this
     clear hCE;go_wp2
     exact bodyPost_ret (v:=.agg #[.int .i64 5,.string (za t.s),.int .i64 0,.slice v0 v1 v2,.int .i64 t.line]) (by simp [results,Tryz.results190,go_sem,z0,z1,z2,z3,z4]) rfl HP.out
   ·have hi':zO [40] (false,ts.tail)=false:=by simpa using hi
    rw [hi',zW hi'] at hT1;have hq4:=HQ3.out;rw [if_neg (by rw [←hi40];exact hi)] at hq4
    have HQQ:Hid (q=(Ex.mk 4 t.s 0 [] t.line,(false,ts.tail))):=(Option.some.inj hq4).symm;clear hi hi' hi40 hq4 HQ3;go_wp2_with fail
    go_region
    all_goals
     go_wp2_with fail
     refine (hT1 _ (by first | exact ((HwG.out.set hr hg 0 (.int .i64 4)).set hr hg 1 (.string (za t.s))).drew | exact ((HwG.out.set hr hg 1 (.string (za t.s))).set hr hg 0 (.int .i64 4)).drew)).mono ?_
     rintro e wB ⟨rfl,hkB,hrB⟩
     have HwB:Hid (vj r g N T w (false,ts.tail) #[.int .i64 4,.string (za t.s),.int .i64 0,.slice none 0 0,.int .i64 t.line] t wB):=by
      first
      | exact (((HwG.out.set hr hg 0 (.int .i64 4)).set hr hg 1 (.string (za t.s))).drew).moved hr hkB hrB
      | exact (((HwG.out.set hr hg 1 (.string (za t.s))).set hr hg 0 (.int .i64 4)).drew).moved hr hkB hrB
     clear hT1 hkB hrB HwG m0 m1 m2 mf hppl d0 d1 d2 d3 d4 df n0 n1 n2 n3 n4 nf k1;obtain ⟨n0,n1,n2,n3,n4,nf⟩:=zo HwB.out.blkN;obtain ⟨x0,x1,x2,x3,x4,xf⟩:=zo HwB.out.res;obtain ⟨d0,d1,d2,d3,d4,df⟩:=zo HwB.out.blkT;have hNe:¬ w.heap.size=N:=by have:=HwB.out.hN;omega
     have hCE:=HwB.out;obtain ⟨z0,z1,z2,z3,z4⟩:=zA hCE.res (.int .i64 4) (.string (za t.s)) (.int .i64 0) (.slice none 0 0) (.int .i64 t.line)
     have HP:Hid (Zo r g w q (.returned (.agg #[.int .i64 4,.string (za t.s),.int .i64 0,.slice none 0 0,.int .i64 t.line])) (set5 wB w.heap.size (.int .i64 4) (.string (za t.s)) (.int .i64 0) (.slice none 0 0) (.int .i64 t.line))):=by
      have:=hCE.leave (B:=w.heap.size+1) hr hg 4 t.s 0 [] t.line (.slice none 0 0) (.inl ⟨rfl,rfl⟩) (by have:=HwB.out.hN;omega)
      rw [HQQ.out];exact this
     clear hCE;go_wp2
     exact bodyPost_ret (v:=.agg #[.int .i64 4,.string (za t.s),.int .i64 0,.slice none 0 0,.int .i64 t.line]) (by simp [results,Tryz.results190,go_sem,z0,z1,z2,z3,z4]) rfl HP.out
  have k1:¬ (t.k:Int)=1:=by omega
  have k1b:((t.k:Int)==1)=false:=by rw [beq_eq_false_iff_ne];exact k1
  have hq3:=HQ2.out;rw [if_neg c1] at hq3;have HQQ:Hid (q=(Ex.mk 0 [] 0 [] t.line,(true,ts))):=(Option.some.inj hq3).symm;have HwG:Hid (vj r g N T w (true,ts) #[.int .i64 0,.string ⟨#[]⟩,.int .i64 0,.slice none 0 0,.int .i64 t.line] t (wA4.setCell ⟨r,2,none⟩ (.bool true))):=HwA4.out.moved hr ((zc.refl r wA4).setCell 2 _) ⟨_,_,_,HB.out.fail⟩;obtain ⟨x0',x1',x2',x3',x4',xf'⟩:=zo HwA4.out.res;clear hq3 HQ2 HIS HB HwA4;obtain ⟨n0,n1,n2,n3,n4,nf⟩:=zo HwG.out.blkN;obtain ⟨x0,x1,x2,x3,x4,xf⟩:=zo HwG.out.res;obtain ⟨d0,d1,d2,d3,d4,df⟩:=zo HwG.out.blkT;have hNe:¬ w.heap.size=N:=by have:=HwG.out.hN;omega
  have hCE:=HwG.out;obtain ⟨z0,z1,z2,z3,z4⟩:=zA hCE.res (.int .i64 0) (.string ⟨#[]⟩) (.int .i64 0) (.slice none 0 0) (.int .i64 t.line)
  have HP:Hid (Zo r g w q (.returned (.agg #[.int .i64 0,.string ⟨#[]⟩,.int .i64 0,.slice none 0 0,.int .i64 t.line])) (set5 (wA4.setCell ⟨r,2,none⟩ (.bool true)) w.heap.size (.int .i64 0) (.string ⟨#[]⟩) (.int .i64 0) (.slice none 0 0) (.int .i64 t.line))):=by
   have:=hCE.leave (B:=w.heap.size+1) hr hg 0 [] 0 [] t.line (.slice none 0 0) (.inl ⟨rfl,rfl⟩) (by have:=HwG.out.hN;omega)
   rw [HQQ.out];exact this
  clear hCE;go_wp2
  exact bodyPost_ret (v:=.agg #[.int .i64 0,.string ⟨#[]⟩,.int .i64 0,.slice none 0 0,.int .i64 t.line]) (by simp [results,Tryz.results190,go_sem,z0,z1,z2,z3,z4]) rfl HP.out
 ·have HQQ:Hid (q=(Ex.mk 0 [] 0 [] t.line,(true,ts))):=by
   have:=HQ.out
   rw [if_pos (by rfl)] at this
   exact (Option.some.inj this).symm
  simp only at m2;have m2':=fun ob=>ze m2 ob
  have m2'':=fun ob ob'=>ze (m2' ob) ob'
  have hpA:∀ob ob',((w1.alloc ob).alloc ob').heap[w.heap.size]?=some ZA:=fun ob ob'=>by
   rw [Below.heap_alloc _ _ _ (by simp;omega),Below.heap_alloc _ _ _ (by omega)]
   exact HP1.out
  have y0'':=fun ob ob'=>(zo (hpA ob ob')).1
  have y1'':=fun ob ob'=>(zo (hpA ob ob')).2.1
  have y2'':=fun ob ob'=>(zo (hpA ob ob')).2.2.1
  have y3'':=fun ob ob'=>(zo (hpA ob ob')).2.2.2.1
  have y4'':=fun ob ob'=>(zo (hpA ob ob')).2.2.2.2.1
  have yf'':=fun ob ob' j=>(zo (hpA ob ob')).2.2.2.2.2 j
  obtain ⟨z0,z1,z2,z3,z4⟩:=zA HA.out.res (.int .i64 0) (.string ⟨#[]⟩) (.int .i64 0) (.slice none 0 0) (.int .i64 t.line);clear HQ hpA HP1;go_wp2
  refine bodyPost_ret (v:=.agg #[.int .i64 0,.string ⟨#[]⟩,.int .i64 0,.slice none 0 0,.int .i64 t.line]) (by simp [results,Tryz.results190,go_sem, *]) rfl ?_
  rw [HQQ.out];exact HA.out.leave (B:=w.heap.size+1) hr hg 0 [] 0 [] t.line (.slice none 0 0) (.inl ⟨rfl,rfl⟩) (by omega)
end Go.Proofs.YtpejpbbdgblbeaaGreatDoor
