import Derived.Test.YtmbofhpmockmbaaGreatDoorMC26
namespace Go.Proofs.YtmbofhpmockmbaaGreatDoor
open Go.RowKit Go.Shelf
set_option maxHeartbeats 16000000
set_option maxRecDepth 100000
theorem zc.far {r N:Nat} {w W:World} (h:zc r w W) (hN:w.heap.size≤N) (j:Nat) (v:Value):zc r w (W.setCell ⟨N,j,none⟩ v) :=
 ⟨h.os,h.tape,h.output,by simpa using h.size,fun k hk hr=>(Below.heap_setCell _ _ _ _ (by simp;omega)).trans (h.block k hk hr)⟩
theorem zD.far {r g N:Nat} {σ:RS} {W:World} (h:zD r g σ W) (hr:N≠r) (hg:N≠g) (j:Nat) (v:Value):zD r g σ (W.setCell ⟨N,j,none⟩ v) :=
 h.keep (Below.heap_setCell _ _ _ _ (by simp;omega)) (Below.heap_setCell _ _ _ _ (by simp;omega))
theorem zN.alloc {r g:Nat} {w W:World} {q:Ex × RS} {e:Ending} (h:zN r g w q e W) (ob:Obj):zN r g w q e (W.alloc ob):=by
 obtain ⟨y,v,rfl,o,z⟩:=h;exact ⟨y.alloc _,v,rfl,zO.kept o (by simp) fun k _ hlt=>Below.heap_alloc _ _ _ hlt,z.alloc _⟩
theorem zN.drew {r g:Nat} {w W:World} {q:Ex × RS} {e:Ending} (h:zN r g w q e W):zN r g w q e W.drew:=by
 obtain ⟨o,v,rfl,y,z⟩:=h;exact ⟨⟨o.os,o.tape,o.output,o.size,o.block⟩,v,rfl,zO.kept y (Nat.le_refl _) fun k _ hlt=>rfl,z.keep rfl rfl⟩
structure Yt (r g N T:Nat) (w:World) (σ:RS) (c:Array Value) (t:Tk) (W:World):Prop where
 blkN:W.heap[N]?=some (.cells c 90 (0,0))
 blkT:W.heap[T]?=some (.cells #[.int .i64 t.k,.string (za t.s),.int .i64 t.n,.int .i64 t.line,.int .i64 t.at0] 142 (0,0))
 res:W.heap[w.heap.size]?=some zL
 rd:zD r g σ W
 kept:zc r w W
 hN:w.heap.size<N
 hT:w.heap.size<T∧T≠N
theorem Yt.moved {r g N T:Nat} {w W W':World} {σ σ':RS} {c:Array Value} {t:Tk} (h:Yt r g N T w σ c t W) (hr:r<w.heap.size) (hK:zc r W W') (hrd:zD r g σ' W'):Yt r g N T w σ' c t W' where
 blkN:=(hK.block _ (Array.getElem?_eq_some_iff.1 h.blkN).1 (by have:=h.hN;omega)).trans h.blkN
 blkT:=(hK.block _ (Array.getElem?_eq_some_iff.1 h.blkT).1 (by have:=h.hT;omega)).trans h.blkT
 res:=(hK.block _ (Array.getElem?_eq_some_iff.1 h.res).1 (by omega)).trans h.res
 rd:=hrd
 kept:=h.kept.trans hK
 hN:=h.hN
 hT:=h.hT
theorem Yt.set {r g N T:Nat} {w W:World} {σ:RS} {c:Array Value} {t:Tk} (h:Yt r g N T w σ c t W) (hr:r<w.heap.size) (hg:g<w.heap.size) (j:Nat) (v:Value):Yt r g N T w σ (c.setIfInBounds j v) t (W.setCell ⟨N,j,none⟩ v) where
 blkN:=Zg v h.blkN
 blkT:=(Below.heap_setCell _ _ _ _ (by have:=h.hT;simp;omega)).trans h.blkT
 res:=(Below.heap_setCell _ _ _ _ (by have:=h.hN;simp;omega)).trans h.res
 rd:=h.rd.far (by have:=h.hN;omega) (by have:=h.hN;omega) j v
 kept:=h.kept.far (Nat.le_of_lt h.hN) j v
 hN:=h.hN
 hT:=h.hT
theorem Yt.drew {r g N T:Nat} {w W:World} {σ:RS} {c:Array Value} {t:Tk} (h:Yt r g N T w σ c t W):Yt r g N T w σ c t W.drew where
 blkN:=h.blkN
 blkT:=h.blkT
 res:=h.res
 rd:=h.rd.keep rfl rfl
 kept:=⟨h.kept.os,h.kept.tape,h.kept.output,h.kept.size,h.kept.block⟩
 hN:=h.hN
 hT:=h.hT
theorem Yt.leave {r g N T B:Nat} {w W:World} {σ:RS} {c:Array Value} {t:Tk} (h:Yt r g N T w σ c t W) (hr:r<w.heap.size) (hg:g<w.heap.size) (k:Nat) (s:List UInt8) (n:Int) (l:List Ex) (line:Nat) (v:Value) (hrow:Zw B W l v) (hB:w.heap.size<B) :
  zN r g w (.mk k s n l line,σ) (.returned (.agg #[.int .i64 k,.string (za s),.int .i64 n,v,.int .i64 line])) (set5 W w.heap.size (.int .i64 k) (.string (za s)) (.int .i64 n) v (.int .i64 line)) :=
 zN.of_set5 k s n line h.kept (Nat.le_refl _) hr hg hrow hB h.rd
theorem QG (r g F:Nat) (σ:RS) (w:World) (q:Ex × RS) (h:zD r g σ w) (hq:ye (F+1) σ=some q) (hex:Yl r g F) (hli:UB r g F) :
  Calls Tryz.prog 135 #[.pointer (some ⟨r,0,none⟩)] w (zN r g w q):=by
 obtain ⟨o,D⟩:=h.lt;obtain ⟨bd,ts⟩:=σ;have ct:=Xi r g (bd,ts) (w.alloc zL) (h.alloc _);obtain ⟨t,ht⟩:∃t,t=zx ts:=⟨_,rfl⟩;have a4:Hid (t=zx ts):=ht;simp only at ct;rw [←ht] at ct;rw [ye] at hq;simp only [←ht] at hq;have HQ:Hid (_=some q):=hq;have HH:Hid (zD r g (bd,ts) w):=h;have bl:Hid (Yl r g F):=hex;have a5:Hid (UB r g F):=hli;clear ht h hex hli hq
 go_enter Tryz.func135,Tryz.ntmps135
 go_wp2_with fail
 refine ct.mono ?_;clear ct;rintro e M ⟨rfl,ay⟩;have a9:w.heap.size+1≤M.heap.size:=by have:=ay.size;simpa using this
 have p1:M.heap[w.heap.size]?=some zL:=(ay.block _ (by simp)).trans (World.alloc_heap_new w _)
 have hA:Yt r g (M.heap.size+1) M.heap.size w (bd,ts) #[.int .i64 0,.string ⟨#[]⟩,.int .i64 0,.slice none 0 0,.int .i64 t.line] t ((M.alloc (.cells #[.int .i64 t.k,.string (za t.s),.int .i64 t.n,.int .i64 t.line,.int .i64 t.at0] 142)).alloc (.cells #[.int .i64 0,.string ⟨#[]⟩,.int .i64 0,.slice none 0 0,.int .i64 t.line] 90)):=by
  refine ⟨?_,?_,?_,(((HH.out.alloc _).below ay).alloc _).alloc _,((((zc.refl r w).alloc _).trans (zc.of ay)).alloc _).alloc _,by omega,by omega⟩
  ·have:=World.alloc_heap_new (M.alloc (.cells #[.int .i64 t.k,.string (za t.s),.int .i64 t.n,.int .i64 t.line,.int .i64 t.at0] 142)) (.cells #[.int .i64 0,.string ⟨#[]⟩,.int .i64 0,.slice none 0 0,.int .i64 t.line] 90)
   simpa using this
  ·rw [Below.heap_alloc _ _ _ (by simp)]
   exact World.alloc_heap_new _ _
  ·rw [Below.heap_alloc _ _ _ (by simp;omega),Below.heap_alloc _ _ _ (by omega)]
   exact p1
 have aa:Hid (zD r g (bd,ts) M∧zc r w M):=⟨(HH.out.alloc _).below ay,((zc.refl r w).alloc _).trans (zc.of ay)⟩;simp only [YQ];have HA:Hid (Yt r g (M.heap.size+1) M.heap.size w (bd,ts) #[.int .i64 0,.string ⟨#[]⟩,.int .i64 0,.slice none 0 0,.int .i64 t.line] t ((M.alloc (.cells #[.int .i64 t.k,.string (za t.s),.int .i64 t.n,.int .i64 t.line,.int .i64 t.at0] 142)).alloc (.cells #[.int .i64 0,.string ⟨#[]⟩,.int .i64 0,.slice none 0 0,.int .i64 t.line] 90))):=hA;obtain ⟨pp,aP,TS,hb⟩:=aa.out.1;obtain ⟨m0,m1,m2,mf⟩:=Zb hb.blk;have al:pp≤1099511627776:=by have:=hb.lt;have:=hb.few;omega
 have HB:Hid (Z0 r g pp aP TS (bd,ts) M):=hb;obtain ⟨y0,y1,y2,y3,y4,yf⟩:=ze p1;have ak:Hid (M.heap[w.heap.size]?=some zL):=p1;clear hA hb ay HH p1;cases bd
 ·have aI:Hid ((if t.k=2 then some (Ex.mk 1 [] t.n [] t.line,(false,ts.tail)) else
    if t.k=3 then some (Ex.mk 3 t.s 0 [] t.line,(false,ts.tail)) else
    if zm t [116,114,117,101]=true then some (Ex.mk 2 [] 1 [] t.line,(false,ts.tail)) else
    if zm t [102,97,108,115,101]=true then some (Ex.mk 2 [] 0 [] t.line,(false,ts.tail)) else
    if zm t [110,101,119]=true then (ZR F [41] false (Zd [40] (nameF (false,ts.tail)).2)).bind fun l=>some (Ex.mk 11 (nameF (false,ts.tail)).1 0 l.1 t.line,l.2) else
    if zm t [91]=true then (ZR F [93] true (false,ts.tail)).bind fun l=>some (Ex.mk 10 [] 0 l.1 t.line,l.2) else
    if zm t [40]=true then (yV F 0 (false,ts.tail)).bind fun q=>some (q.1,Zd [41] q.2) else
    if t.k=1 then (if zm (zx ts.tail) [40]=true then (ZR F [41] false (false,ts.tail.tail)).bind fun l=>some (Ex.mk 5 t.s 0 l.1 t.line,l.2) else some (Ex.mk 4 t.s 0 [] t.line,(false,ts.tail)))
    else some (Ex.mk 0 [] 0 [] t.line,(true,ts)):Option (Ex × RS))=some q):=by
   have:=HQ.out
   rw [if_neg (by simp)] at this
   exact this
  clear HQ;have R:Hid (∀s,zW s (false,ts)=zm t s):=fun s=>by rw [yW,←a4.out]
  simp only at m2
  by_cases c2:t.k=2
  ·have z:=aI.out
   rw [if_pos c2] at z;obtain ⟨tk,tS,tn,tl,ta⟩:=t;simp only at c2;subst c2;have L:Hid (q=(Ex.mk 1 [] tn [] tl,(false,ts.tail))):=(Option.some.inj z).symm;have aK:Hid (Yt r g (M.heap.size+1) M.heap.size w (false,ts) #[.int .i64 0,.string ⟨#[]⟩,.int .i64 0,.slice none 0 0,.int .i64 tl] ⟨2,tS,tn,tl,ta⟩ ((M.alloc (.cells #[.int .i64 2,.string (za tS),.int .i64 tn,.int .i64 tl,.int .i64 ta] 142)).alloc (.cells #[.int .i64 0,.string ⟨#[]⟩,.int .i64 0,.slice none 0 0,.int .i64 tl] 90))):=HA.out;have ae:∀ob ob',Z0 r g pp aP TS (false,ts) ((M.alloc ob).alloc ob'):=fun ob ob'=>(HB.out.keep (Below.heap_alloc _ _ _ aa.out.1.lt.1) (Below.heap_alloc _ _ _ aa.out.1.lt.2)).keep (Below.heap_alloc _ _ _ (by have:=aa.out.1.lt.1;simp;omega)) (Below.heap_alloc _ _ _ (by have:=aa.out.1.lt.2;simp;omega))
   have HG:Hid (Yt r g (M.heap.size+1) M.heap.size w (false,ts.tail) #[.int .i64 0,.string ⟨#[]⟩,.int .i64 0,.slice none 0 0,.int .i64 tl] ⟨2,tS,tn,tl,ta⟩ (((M.alloc (.cells #[.int .i64 2,.string (za tS),.int .i64 tn,.int .i64 tl,.int .i64 ta] 142)).alloc (.cells #[.int .i64 0,.string ⟨#[]⟩,.int .i64 0,.slice none 0 0,.int .i64 tl] 90)).setCell ⟨r,1,none⟩ (.int .i64 ((pp:Int)+1)))):=aK.out.moved o ((zc.refl r _).setCell 1 _) ⟨_,_,_,(ae _ _).step (by show (zx ts).k≠0;rw [←a4.out];exact Nat.succ_ne_zero _)⟩
   have aX:=fun ob ob'=>(Zb (ae ob ob').blk).2.1
   have af:=fun ob ob'=>(Zb (ae ob ob').blk).2.2.1
   have aT:=fun ob ob' j=>(Zb (ae ob ob').blk).2.2.2 j
   have I:∀ob ob',((M.alloc ob).alloc ob').heap[w.heap.size]?=some zL:=fun ob ob'=>by
    rw [Below.heap_alloc _ _ _ (by simp;omega),Below.heap_alloc _ _ _ (by omega)]
    exact ak.out
   have aA:=fun ob ob'=>(ze (I ob ob')).1
   have aG:=fun ob ob'=>(ze (I ob ob')).2.1
   have aB:=fun ob ob'=>(ze (I ob ob')).2.2.1
   have aC:=fun ob ob'=>(ze (I ob ob')).2.2.2.1
   have aF:=fun ob ob'=>(ze (I ob ob')).2.2.2.2.1
   have aE:=fun ob ob' j=>(ze (I ob ob')).2.2.2.2.2 j
   have bn:IntKind.i64.wrap ((pp:Int)+1)=(pp:Int)+1:=by rw [IntKind.wrap_i64];omega
   have bo:¬ w.heap.size=M.heap.size+1:=by omega
   have bp:¬ r=M.heap.size+1:=by have:=aa.out.1.lt.1;omega
   have bk:¬ r=M.heap.size:=by have:=aa.out.1.lt.1;omega
   clear z aI R HA aK ae I ak;go_wp2_with fail
   go_region
   all_goals
    obtain ⟨z0,z1,z2,z3,z4⟩:=zj ((HG.out.set o D 0 (.int .i64 1)).set o D 2 (.int .i64 tn)).res (.int .i64 1) (.string (za [])) (.int .i64 tn) (.slice none 0 0) (.int .i64 tl);go_wp2
    clear aX af aT aA aG aB aC aF aE;refine bodyPost_ret (v:=.agg #[.int .i64 1,.string (za []),.int .i64 tn,.slice none 0 0,.int .i64 tl]) (by simp [results,Tryz.results135,go_sem,z0,z1,z2,z3,z4]) rfl ?_
    rw [L.out]
    first
    | exact zN.drew (((HG.out.set o D 0 (.int .i64 1)).set o D 2 (.int .i64 tn)).leave (B:=w.heap.size+1) o D 1 [] tn [] tl (.slice none 0 0) (.inl ⟨rfl,rfl⟩) (by omega))
    | exact zN.drew (((HG.out.set o D 2 (.int .i64 tn)).set o D 0 (.int .i64 1)).leave (B:=w.heap.size+1) o D 1 [] tn [] tl (.slice none 0 0) (.inl ⟨rfl,rfl⟩) (by omega))
  by_cases c3:t.k=3
  ·have z:=aI.out
   rw [if_neg c2,if_pos c3] at z;obtain ⟨tk,tS,tn,tl,ta⟩:=t;simp only at c3;subst c3;have L:Hid (q=(Ex.mk 3 tS 0 [] tl,(false,ts.tail))):=(Option.some.inj z).symm;have aK:Hid (Yt r g (M.heap.size+1) M.heap.size w (false,ts) #[.int .i64 0,.string ⟨#[]⟩,.int .i64 0,.slice none 0 0,.int .i64 tl] ⟨3,tS,tn,tl,ta⟩ ((M.alloc (.cells #[.int .i64 3,.string (za tS),.int .i64 tn,.int .i64 tl,.int .i64 ta] 142)).alloc (.cells #[.int .i64 0,.string ⟨#[]⟩,.int .i64 0,.slice none 0 0,.int .i64 tl] 90))):=HA.out;have ae:∀ob ob',Z0 r g pp aP TS (false,ts) ((M.alloc ob).alloc ob'):=fun ob ob'=>(HB.out.keep (Below.heap_alloc _ _ _ aa.out.1.lt.1) (Below.heap_alloc _ _ _ aa.out.1.lt.2)).keep (Below.heap_alloc _ _ _ (by have:=aa.out.1.lt.1;simp;omega)) (Below.heap_alloc _ _ _ (by have:=aa.out.1.lt.2;simp;omega))
   have HG:Hid (Yt r g (M.heap.size+1) M.heap.size w (false,ts.tail) #[.int .i64 0,.string ⟨#[]⟩,.int .i64 0,.slice none 0 0,.int .i64 tl] ⟨3,tS,tn,tl,ta⟩ (((M.alloc (.cells #[.int .i64 3,.string (za tS),.int .i64 tn,.int .i64 tl,.int .i64 ta] 142)).alloc (.cells #[.int .i64 0,.string ⟨#[]⟩,.int .i64 0,.slice none 0 0,.int .i64 tl] 90)).setCell ⟨r,1,none⟩ (.int .i64 ((pp:Int)+1)))):=aK.out.moved o ((zc.refl r _).setCell 1 _) ⟨_,_,_,(ae _ _).step (by show (zx ts).k≠0;rw [←a4.out];exact Nat.succ_ne_zero _)⟩
   have aX:=fun ob ob'=>(Zb (ae ob ob').blk).2.1
   have af:=fun ob ob'=>(Zb (ae ob ob').blk).2.2.1
   have aT:=fun ob ob' j=>(Zb (ae ob ob').blk).2.2.2 j
   have I:∀ob ob',((M.alloc ob).alloc ob').heap[w.heap.size]?=some zL:=fun ob ob'=>by
    rw [Below.heap_alloc _ _ _ (by simp;omega),Below.heap_alloc _ _ _ (by omega)]
    exact ak.out
   have aA:=fun ob ob'=>(ze (I ob ob')).1
   have aG:=fun ob ob'=>(ze (I ob ob')).2.1
   have aB:=fun ob ob'=>(ze (I ob ob')).2.2.1
   have aC:=fun ob ob'=>(ze (I ob ob')).2.2.2.1
   have aF:=fun ob ob'=>(ze (I ob ob')).2.2.2.2.1
   have aE:=fun ob ob' j=>(ze (I ob ob')).2.2.2.2.2 j
   have bn:IntKind.i64.wrap ((pp:Int)+1)=(pp:Int)+1:=by rw [IntKind.wrap_i64];omega
   have bo:¬ w.heap.size=M.heap.size+1:=by omega
   have bp:¬ r=M.heap.size+1:=by have:=aa.out.1.lt.1;omega
   have bk:¬ r=M.heap.size:=by have:=aa.out.1.lt.1;omega
   clear z aI R HA aK ae I ak;go_wp2_with fail
   go_region
   all_goals
    obtain ⟨z0,z1,z2,z3,z4⟩:=zj ((HG.out.set o D 0 (.int .i64 3)).set o D 1 (.string (za tS))).res (.int .i64 3) (.string (za tS)) (.int .i64 0) (.slice none 0 0) (.int .i64 tl);go_wp2
    clear aX af aT aA aG aB aC aF aE;refine bodyPost_ret (v:=.agg #[.int .i64 3,.string (za tS),.int .i64 0,.slice none 0 0,.int .i64 tl]) (by simp [results,Tryz.results135,go_sem,z0,z1,z2,z3,z4]) rfl ?_
    rw [L.out]
    first
    | exact zN.drew (((HG.out.set o D 0 (.int .i64 3)).set o D 1 (.string (za tS))).leave (B:=w.heap.size+1) o D 3 tS 0 [] tl (.slice none 0 0) (.inl ⟨rfl,rfl⟩) (by omega))
    | exact zN.drew (((HG.out.set o D 1 (.string (za tS))).set o D 0 (.int .i64 3)).leave (B:=w.heap.size+1) o D 3 tS 0 [] tl (.slice none 0 0) (.inl ⟨rfl,rfl⟩) (by omega))
  have H:=aI.out;rw [if_neg c2,if_neg c3] at H;have A:Hid (_=some q):=H;have k2:¬ (t.k:Int)=2:=by omega
  have k3:¬ (t.k:Int)=3:=by omega
  have bb:((t.k:Int)==2)=false:=by rw [beq_eq_false_iff_ne];exact k2
  have be:((t.k:Int)==3)=false:=by rw [beq_eq_false_iff_ne];exact k3
  have Q:=yp r g (false,ts) [116,114,117,101] _ HA.out.rd;have aQ:=fun ob=>zd m2 ob
  have af:=fun ob ob'=>zd (aQ ob) ob'
  clear aI c2 c3 H
  by_cases hi:zW [116,114,117,101] (false,ts)=true
  ·rw [hi,ya hi] at Q
   simp only at Q;have z:=A.out;rw [if_pos (by rw [←R.out];exact hi)] at z
   go_wp2_with fail
   refine Q.mono ?_;clear Q;rintro e Z ⟨rfl,J,K⟩;have aR:=HA.out.moved o J K;obtain ⟨N,hN⟩:∃N,N=M.heap.size+1:=⟨_,rfl⟩;obtain ⟨T,hT⟩:∃T,T=M.heap.size:=⟨_,rfl⟩;have a2:M.heap.size=T:=hT.symm;rw [←hN,a2] at aR ⊢;have y:Hid (Yt r g N T w (false,ts.tail) #[.int .i64 0,.string ⟨#[]⟩,.int .i64 0,.slice none 0 0,.int .i64 t.line] t Z):=aR;clear hN hT a2 aR J K HA aa HB ak m0 m1 m2 aQ af mf y0 y1 y2 y3 y4 yf a9 al k2 k3 bb be;have L:Hid (q=(Ex.mk 2 [] 1 [] t.line,(false,ts.tail))):=(Option.some.inj z).symm;clear z A R hi;obtain ⟨n0,n1,n2,n3,n4,nf⟩:=ze y.out.blkN;obtain ⟨x0,x1,x2,x3,x4,xf⟩:=ze y.out.res;obtain ⟨d0,d1,d2,d3,d4,df⟩:=ze y.out.blkT;have aH:¬ w.heap.size=N:=by have:=y.out.hN;omega
   have E:=((y.out.set o D 0 (.int .i64 2)).set o D 2 (.int .i64 1));obtain ⟨z0,z1,z2,z3,z4⟩:=zj E.res (.int .i64 2) (.string ⟨#[]⟩) (.int .i64 1) (.slice none 0 0) (.int .i64 t.line)
   have HP:Hid (zN r g w q (.returned (.agg #[.int .i64 2,.string ⟨#[]⟩,.int .i64 1,.slice none 0 0,.int .i64 t.line])) (set5 ((Z.setCell ⟨N,0,none⟩ (.int .i64 2)).setCell ⟨N,2,none⟩ (.int .i64 1)) w.heap.size (.int .i64 2) (.string ⟨#[]⟩) (.int .i64 1) (.slice none 0 0) (.int .i64 t.line))):=by
    have:=E.leave (B:=w.heap.size+1) o D 2 [] 1 [] t.line (.slice none 0 0) (.inl ⟨rfl,rfl⟩) (by have:=y.out.hN;omega)
    rw [L.out];exact this
   clear E;go_wp2
   exact bodyPost_ret (v:=.agg #[.int .i64 2,.string ⟨#[]⟩,.int .i64 1,.slice none 0 0,.int .i64 t.line]) (by simp [results,Tryz.results135,go_sem,z0,z1,z2,z3,z4]) rfl HP.out
  have G:zW [116,114,117,101] (false,ts)=false:=by simpa using hi
  rw [G,yD G] at Q;have H:=A.out;rw [if_neg (by rw [←R.out];exact hi)] at H
  clear A;have A:Hid (_=some q):=H;clear H hi G;go_wp2_with fail
  refine Q.mono ?_;clear Q;rintro e bf ⟨rfl,aU,aW⟩;have au:=HA.out.moved o aU aW;obtain ⟨N,hN⟩:∃N,N=M.heap.size+1:=⟨_,rfl⟩;obtain ⟨T,hT⟩:∃T,T=M.heap.size:=⟨_,rfl⟩;have a2:M.heap.size=T:=hT.symm;rw [←hN,a2] at au ⊢;have aj:Hid (Yt r g N T w (false,ts) #[.int .i64 0,.string ⟨#[]⟩,.int .i64 0,.slice none 0 0,.int .i64 t.line] t bf):=au;clear hN hT a2 au aU aW HA aa HB ak m0 m1 m2 aQ af mf y0 y1 y2 y3 y4 yf a9 al k2 k3 bb be;have Q:=yp r g (false,ts) [102,97,108,115,101] bf aj.out.rd
  by_cases hi:zW [102,97,108,115,101] (false,ts)=true
  ·rw [hi,ya hi] at Q
   simp only at Q;have z:=A.out;rw [if_pos (by rw [←R.out];exact hi)] at z
   go_wp2_with fail
   refine Q.mono ?_;clear Q;rintro e Z ⟨rfl,J,K⟩;have y:Hid (Yt r g N T w (false,ts.tail) #[.int .i64 0,.string ⟨#[]⟩,.int .i64 0,.slice none 0 0,.int .i64 t.line] t Z):=aj.out.moved o J K;clear J K aj;have L:Hid (q=(Ex.mk 2 [] 0 [] t.line,(false,ts.tail))):=(Option.some.inj z).symm;clear z A R hi;obtain ⟨n0,n1,n2,n3,n4,nf⟩:=ze y.out.blkN;obtain ⟨x0,x1,x2,x3,x4,xf⟩:=ze y.out.res;obtain ⟨d0,d1,d2,d3,d4,df⟩:=ze y.out.blkT;have aH:¬ w.heap.size=N:=by have:=y.out.hN;omega
   have E:=(y.out.set o D 0 (.int .i64 2));obtain ⟨z0,z1,z2,z3,z4⟩:=zj E.res (.int .i64 2) (.string ⟨#[]⟩) (.int .i64 0) (.slice none 0 0) (.int .i64 t.line)
   have HP:Hid (zN r g w q (.returned (.agg #[.int .i64 2,.string ⟨#[]⟩,.int .i64 0,.slice none 0 0,.int .i64 t.line])) (set5 (Z.setCell ⟨N,0,none⟩ (.int .i64 2)) w.heap.size (.int .i64 2) (.string ⟨#[]⟩) (.int .i64 0) (.slice none 0 0) (.int .i64 t.line))):=by
    have:=E.leave (B:=w.heap.size+1) o D 2 [] 0 [] t.line (.slice none 0 0) (.inl ⟨rfl,rfl⟩) (by have:=y.out.hN;omega)
    rw [L.out];exact this
   clear E;go_wp2
   exact bodyPost_ret (v:=.agg #[.int .i64 2,.string ⟨#[]⟩,.int .i64 0,.slice none 0 0,.int .i64 t.line]) (by simp [results,Tryz.results135,go_sem,z0,z1,z2,z3,z4]) rfl HP.out
  have G:zW [102,97,108,115,101] (false,ts)=false:=by simpa using hi
  rw [G,yD G] at Q;have H:=A.out;rw [if_neg (by rw [←R.out];exact hi)] at H
  clear A;have A:Hid (_=some q):=H;clear H hi G;go_wp2_with fail
  refine Q.mono ?_;clear Q;rintro e bi ⟨rfl,aY,aL⟩;have ai:Hid (Yt r g N T w (false,ts) #[.int .i64 0,.string ⟨#[]⟩,.int .i64 0,.slice none 0 0,.int .i64 t.line] t bi):=aj.out.moved o aY aL;clear aY aL aj;have Q:=yp r g (false,ts) [110,101,119] bi ai.out.rd
  by_cases hi:zW [110,101,119] (false,ts)=true
  ·rw [hi,ya hi] at Q
   simp only at Q;have z:=A.out;rw [if_pos (by rw [←R.out];exact hi)] at z
   go_wp2_with fail
   refine Q.mono ?_;clear Q;rintro e Z ⟨rfl,J,K⟩;have y:Hid (Yt r g N T w (false,ts.tail) #[.int .i64 0,.string ⟨#[]⟩,.int .i64 0,.slice none 0 0,.int .i64 t.line] t Z):=ai.out.moved o J K;clear J K ai;obtain ⟨ql,Y,ab⟩:=Option.bind_eq_some_iff.1 z;have cn:=QN r g (false,ts.tail) Z y.out.rd;generalize nameF (false,ts.tail)=qn at *;have L:Hid (q=(Ex.mk 11 qn.1 0 ql.1 t.line,ql.2)):=(Option.some.inj ab).symm;clear z ab A R hi;go_wp2_with fail
   refine cn.mono ?_;clear cn;rintro e wC ⟨rfl,aV,aN⟩;have aq:Hid (Yt r g N T w qn.2 #[.int .i64 0,.string ⟨#[]⟩,.int .i64 0,.slice none 0 0,.int .i64 t.line] t wC):=y.out.moved o aV aN;clear aV aN;obtain ⟨n0,n1,n2,n3,n4,nf⟩:=ze aq.out.blkN;have ad:Hid (Yt r g N T w qn.2 #[.int .i64 11,.string (za qn.1),.int .i64 0,.slice none 0 0,.int .i64 t.line] t ((wC.setCell ⟨N,0,none⟩ (.int .i64 11)).setCell ⟨N,1,none⟩ (.string (za qn.1)))):=(aq.out.set o D 0 (.int .i64 11)).set o D 1 (.string (za qn.1));have cm:=VP r g qn.2 [40] _ ad.out.rd;clear y;go_wp2_with fail
   refine cm.mono ?_;clear cm n0 n1 n2 n3 n4 nf;rintro e wD ⟨rfl,aw,aJ⟩;have ag:Hid (Yt r g N T w (Zd [40] qn.2) #[.int .i64 11,.string (za qn.1),.int .i64 0,.slice none 0 0,.int .i64 t.line] t wD):=ad.out.moved o aw aJ;clear aw aJ aq ad;have cl:=a5.out F (Nat.le_refl _) [41] false _ ql wD Y ag.out.rd;go_wp2_with fail
   refine cl.mono ?_;clear cl;rintro e wE ⟨am,v,rfl,U,ao⟩;obtain ⟨v0,v1,v2,rfl⟩:=zK.slice U;have O:Hid (Yt r g N T w ql.2 #[.int .i64 11,.string (za qn.1),.int .i64 0,.slice none 0 0,.int .i64 t.line] t wE):=ag.out.moved o am ao;have bj:N<wD.heap.size:=(Array.getElem?_eq_some_iff.1 ag.out.blkN).1;have ah:Hid (Zw wD.heap.size (wE.setCell ⟨N,3,none⟩ (.slice v0 v1 v2)) ql.1 (.slice v0 v1 v2)):=zK.kept U (by simp) fun k hk _=>Below.heap_setCell _ _ _ _ (by simp;omega)
   clear am U ao Y;obtain ⟨n0,n1,n2,n3,n4,nf⟩:=ze O.out.blkN;obtain ⟨x0,x1,x2,x3,x4,xf⟩:=ze O.out.res;obtain ⟨d0,d1,d2,d3,d4,df⟩:=ze O.out.blkT;have aH:¬ w.heap.size=N:=by have:=O.out.hN;omega
   have E:=(O.out.set o D 3 (.slice v0 v1 v2));obtain ⟨z0,z1,z2,z3,z4⟩:=zj E.res (.int .i64 11) (.string (za qn.1)) (.int .i64 0) (.slice v0 v1 v2) (.int .i64 t.line)
   have HP:Hid (zN r g w q (.returned (.agg #[.int .i64 11,.string (za qn.1),.int .i64 0,.slice v0 v1 v2,.int .i64 t.line])) (set5 (wE.setCell ⟨N,3,none⟩ (.slice v0 v1 v2)) w.heap.size (.int .i64 11) (.string (za qn.1)) (.int .i64 0) (.slice v0 v1 v2) (.int .i64 t.line))):=by
    have:=E.leave (B:=wD.heap.size) o D 11 qn.1 0 ql.1 t.line (.slice v0 v1 v2) (ah.out) (by have:=O.out.hN;omega)
    rw [L.out];exact this
   clear E;go_wp2
   exact bodyPost_ret (v:=.agg #[.int .i64 11,.string (za qn.1),.int .i64 0,.slice v0 v1 v2,.int .i64 t.line]) (by simp [results,Tryz.results135,go_sem,z0,z1,z2,z3,z4]) rfl HP.out
  have G:zW [110,101,119] (false,ts)=false:=by simpa using hi
  rw [G,yD G] at Q;have H:=A.out;rw [if_neg (by rw [←R.out];exact hi)] at H
  clear A;have A:Hid (_=some q):=H;clear H hi G;go_wp2_with fail
  refine Q.mono ?_;clear Q;rintro e bh ⟨rfl,a1,aS⟩;have ap:Hid (Yt r g N T w (false,ts) #[.int .i64 0,.string ⟨#[]⟩,.int .i64 0,.slice none 0 0,.int .i64 t.line] t bh):=ai.out.moved o a1 aS;clear a1 aS ai;have Q:=yp r g (false,ts) [91] bh ap.out.rd
  by_cases hi:zW [91] (false,ts)=true
  ·rw [hi,ya hi] at Q
   simp only at Q;have z:=A.out;rw [if_pos (by rw [←R.out];exact hi)] at z
   go_wp2_with fail
   refine Q.mono ?_;clear Q;rintro e Z ⟨rfl,J,K⟩;have y:Hid (Yt r g N T w (false,ts.tail) #[.int .i64 0,.string ⟨#[]⟩,.int .i64 0,.slice none 0 0,.int .i64 t.line] t Z):=ap.out.moved o J K;clear J K ap;obtain ⟨ql,Y,ab⟩:=Option.bind_eq_some_iff.1 z;have L:Hid (q=(Ex.mk 10 [] 0 ql.1 t.line,ql.2)):=(Option.some.inj ab).symm;have cl:=a5.out F (Nat.le_refl _) [93] true _ ql Z Y y.out.rd;clear z ab A R hi;go_wp2_with fail
   refine cl.mono ?_;clear cl;rintro e wE ⟨am,v,rfl,U,ao⟩;obtain ⟨v0,v1,v2,rfl⟩:=zK.slice U;have O:Hid (Yt r g N T w ql.2 #[.int .i64 0,.string ⟨#[]⟩,.int .i64 0,.slice none 0 0,.int .i64 t.line] t wE):=y.out.moved o am ao;have bj:N<Z.heap.size:=(Array.getElem?_eq_some_iff.1 y.out.blkN).1;have ah:Hid (Zw Z.heap.size ((wE.setCell ⟨N,0,none⟩ (.int .i64 10)).setCell ⟨N,3,none⟩ (.slice v0 v1 v2)) ql.1 (.slice v0 v1 v2)):=zK.kept U (by simp) fun k hk _=>(Below.heap_setCell _ _ _ _ (by simp;omega)).trans (Below.heap_setCell _ _ _ _ (by simp;omega))
   clear am U ao Y;obtain ⟨n0,n1,n2,n3,n4,nf⟩:=ze O.out.blkN;obtain ⟨x0,x1,x2,x3,x4,xf⟩:=ze O.out.res;obtain ⟨d0,d1,d2,d3,d4,df⟩:=ze O.out.blkT;have aH:¬ w.heap.size=N:=by have:=O.out.hN;omega
   have E:=((O.out.set o D 0 (.int .i64 10)).set o D 3 (.slice v0 v1 v2));obtain ⟨z0,z1,z2,z3,z4⟩:=zj E.res (.int .i64 10) (.string ⟨#[]⟩) (.int .i64 0) (.slice v0 v1 v2) (.int .i64 t.line)
   have HP:Hid (zN r g w q (.returned (.agg #[.int .i64 10,.string ⟨#[]⟩,.int .i64 0,.slice v0 v1 v2,.int .i64 t.line])) (set5 ((wE.setCell ⟨N,0,none⟩ (.int .i64 10)).setCell ⟨N,3,none⟩ (.slice v0 v1 v2)) w.heap.size (.int .i64 10) (.string ⟨#[]⟩) (.int .i64 0) (.slice v0 v1 v2) (.int .i64 t.line))):=by
    have:=E.leave (B:=Z.heap.size) o D 10 [] 0 ql.1 t.line (.slice v0 v1 v2) (ah.out) (by have:=O.out.hN;omega)
    rw [L.out];exact this
   clear E;go_wp2
   exact bodyPost_ret (v:=.agg #[.int .i64 10,.string ⟨#[]⟩,.int .i64 0,.slice v0 v1 v2,.int .i64 t.line]) (by simp [results,Tryz.results135,go_sem,z0,z1,z2,z3,z4]) rfl HP.out
  have G:zW [91] (false,ts)=false:=by simpa using hi
  rw [G,yD G] at Q;have H:=A.out;rw [if_neg (by rw [←R.out];exact hi)] at H
  clear A;have A:Hid (_=some q):=H;clear H hi G;go_wp2_with fail
  refine Q.mono ?_;clear Q;rintro e bg ⟨rfl,aZ,aM⟩;have an:Hid (Yt r g N T w (false,ts) #[.int .i64 0,.string ⟨#[]⟩,.int .i64 0,.slice none 0 0,.int .i64 t.line] t bg):=ap.out.moved o aZ aM;clear aZ aM ap;have Q:=yp r g (false,ts) [40] bg an.out.rd
  by_cases hi:zW [40] (false,ts)=true
  ·rw [hi,ya hi] at Q
   simp only at Q;have z:=A.out;rw [if_pos (by rw [←R.out];exact hi)] at z
   go_wp2_with fail
   refine Q.mono ?_;clear Q;rintro e Z ⟨rfl,J,K⟩;have y:Hid (Yt r g N T w (false,ts.tail) #[.int .i64 0,.string ⟨#[]⟩,.int .i64 0,.slice none 0 0,.int .i64 t.line] t Z):=an.out.moved o J K;clear J K an;obtain ⟨qe,Y,ab⟩:=Option.bind_eq_some_iff.1 z;have L:Hid (q=(qe.1,Zd [41] qe.2)):=(Option.some.inj ab).symm;have ce:Calls Tryz.prog 91 #[.pointer (some ⟨r,0,none⟩),.int .i64 0] Z (zN r g Z qe):=bl.out F (Nat.le_refl _) 0 _ qe Z (by omega) Y y.out.rd
   clear z ab A R hi Y;go_wp2_with fail
   refine ce.mono ?_;clear ce;rintro e wC ⟨aV,v,rfl,hx,aN⟩;obtain ⟨a,b,c,d0,d1,d2,l,rfl⟩:=hx.agg;have aq:Hid (Yt r g N T w qe.2 #[.int .i64 0,.string ⟨#[]⟩,.int .i64 0,.slice none 0 0,.int .i64 t.line] t wC):=y.out.moved o aV aN;have ad:Hid (Yt r g N T w qe.2 #[.int .i64 a,.string b,.int .i64 c,.slice d0 d1 d2,.int .i64 l] t (set5 wC N (.int .i64 a) (.string b) (.int .i64 c) (.slice d0 d1 d2) (.int .i64 l))):=((((aq.out.set o D 0 (.int .i64 a)).set o D 1 (.string b)).set o D 2 (.int .i64 c)).set o D 3 (.slice d0 d1 d2)).set o D 4 (.int .i64 l);have bm:N<Z.heap.size:=(Array.getElem?_eq_some_iff.1 y.out.blkN).1;have bc:Hid (zO Z.heap.size (set5 wC N (.int .i64 a) (.string b) (.int .i64 c) (.slice d0 d1 d2) (.int .i64 l)) qe.1 (.agg #[.int .i64 a,.string b,.int .i64 c,.slice d0 d1 d2,.int .i64 l])):=zO.kept hx (by simp) fun k hk _=>zi _ _ _ _ _ _ _ (by omega)
   obtain ⟨n0,n1,n2,n3,n4,nf⟩:=ze aq.out.blkN;have cm:=VP r g qe.2 [41] _ ad.out.rd;clear aV aN hx;go_wp2_with fail
   refine cm.mono ?_;clear cm n0 n1 n2 n3 n4 nf;rintro e wD ⟨rfl,aw,aJ⟩;have ag:Hid (Yt r g N T w (Zd [41] qe.2) #[.int .i64 a,.string b,.int .i64 c,.slice d0 d1 d2,.int .i64 l] t wD):=ad.out.moved o aw aJ;have a6:w.heap.size<Z.heap.size:=(Array.getElem?_eq_some_iff.1 y.out.res).1;have ba:zO Z.heap.size wD qe.1 (.agg #[.int .i64 a,.string b,.int .i64 c,.slice d0 d1 d2,.int .i64 l]):=zO.kept bc.out aw.size fun k hk hlt=>aw.block k hlt (by omega)
   have HP:Hid (zN r g w q (.returned (.agg #[.int .i64 a,.string b,.int .i64 c,.slice d0 d1 d2,.int .i64 l])) (set5 wD w.heap.size (.int .i64 a) (.string b) (.int .i64 c) (.slice d0 d1 d2) (.int .i64 l))):=by
    have:=zN.of_set5' ag.out.kept (Nat.le_refl _) o D ba a6 aJ
    rw [L.out];exact this
   obtain ⟨n0,n1,n2,n3,n4,nf⟩:=ze ag.out.blkN;obtain ⟨x0,x1,x2,x3,x4,xf⟩:=ze ag.out.res;obtain ⟨z0,z1,z2,z3,z4⟩:=zj ag.out.res (.int .i64 a) (.string b) (.int .i64 c) (.slice d0 d1 d2) (.int .i64 l);clear aw aJ aq ad y bc ba ag bm a6;go_wp2
   exact bodyPost_ret (v:=.agg #[.int .i64 a,.string b,.int .i64 c,.slice d0 d1 d2,.int .i64 l]) (by simp [results,Tryz.results135,go_sem,z0,z1,z2,z3,z4]) rfl HP.out
  have G:zW [40] (false,ts)=false:=by simpa using hi
  rw [G,yD G] at Q;have H:=A.out;rw [if_neg (by rw [←R.out];exact hi)] at H
  clear A;have A:Hid (_=some q):=H;clear H hi G;go_wp2_with fail
  refine Q.mono ?_;clear Q;rintro e ar ⟨rfl,aO,a0⟩;have X:Hid (Yt r g N T w (false,ts) #[.int .i64 0,.string ⟨#[]⟩,.int .i64 0,.slice none 0 0,.int .i64 t.line] t ar):=an.out.moved o aO a0;clear aO a0 an;obtain ⟨pp,aP,TS,hb⟩:=X.out.rd;obtain ⟨m0,m1,m2,mf⟩:=Zb hb.blk;have al:pp≤1099511627776:=by have:=hb.lt;have:=hb.few;omega
  have HB:Hid (Z0 r g pp aP TS (false,ts) ar):=hb;obtain ⟨d0,d1,d2,d3,d4,df⟩:=ze X.out.blkT;obtain ⟨n0,n1,n2,n3,n4,nf⟩:=ze X.out.blkN;have bq:¬ T=N:=X.out.hT.2;have bt:¬ r=N:=by have:=X.out.hN;omega
  have bu:¬ r=T:=by have:=X.out.hT;omega
  clear hb
  by_cases c1:t.k=1
  ·have z:=A.out
   rw [if_pos c1] at z;have a3:Hid (_=some q):=z;have k1:(t.k:Int)=1:=by omega
   have V:Hid (Yt r g N T w (false,ts.tail) #[.int .i64 0,.string ⟨#[]⟩,.int .i64 0,.slice none 0 0,.int .i64 t.line] t (ar.setCell ⟨r,1,none⟩ (.int .i64 ((pp:Int)+1)))):=X.out.moved o ((zc.refl r ar).setCell 1 _) ⟨_,_,_,HB.out.step (by show (zx ts).k≠0;rw [←a4.out];omega)⟩
   have az:∀W,Yt r g N T w (false,ts.tail) #[.int .i64 4,.string (za t.s),.int .i64 0,.slice none 0 0,.int .i64 t.line] t W→Calls Tryz.prog 134 #[.pointer (some ⟨r,0,none⟩),.string (za [40])] W fun e w'=>e=.returned (.bool (zW [40] (false,ts.tail)))∧zc r W w'∧zD r g (ZG [40] (false,ts.tail)) w':=fun W hW=>yp r g (false,ts.tail) [40] W hW.rd
   have aD:zW [40] (false,ts.tail)=zm (zx ts.tail) [40]:=yW _ _;clear z A R X HB
   by_cases hi:zW [40] (false,ts.tail)=true
   ·rw [hi,ya hi] at az
    have Y:=a3.out;rw [if_pos (by rw [←aD];exact hi)] at Y
    obtain ⟨ql,ab,a8⟩:=Option.bind_eq_some_iff.1 Y;have L:Hid (q=(Ex.mk 5 t.s 0 ql.1 t.line,ql.2)):=(Option.some.inj a8).symm;have a7:Hid (ZR F [41] false (false,ts.tail.tail)=some ql):=ab;simp only at az;clear hi aD Y ab a8 a3;go_wp2_with fail
    go_region
    all_goals
     go_wp2_with fail
     refine (az _ (by first | exact ((V.out.set o D 0 (.int .i64 4)).set o D 1 (.string (za t.s))).drew | exact ((V.out.set o D 1 (.string (za t.s))).set o D 0 (.int .i64 4)).drew)).mono ?_
     rintro e Z ⟨rfl,av,ax⟩
     have y:Hid (Yt r g N T w (false,ts.tail.tail) #[.int .i64 4,.string (za t.s),.int .i64 0,.slice none 0 0,.int .i64 t.line] t Z):=by
      first
      | exact (((V.out.set o D 0 (.int .i64 4)).set o D 1 (.string (za t.s))).drew).moved o av ax
      | exact (((V.out.set o D 1 (.string (za t.s))).set o D 0 (.int .i64 4)).drew).moved o av ax
     have cl:=a5.out F (Nat.le_refl _) [41] false _ ql Z a7.out y.out.rd;clear az av ax V m0 m1 m2 mf al d0 d1 d2 d3 d4 df n0 n1 n2 n3 n4 nf k1;go_wp2_with fail
     refine cl.mono ?_;clear cl;rintro e wE ⟨am,v,rfl,U,ao⟩;obtain ⟨v0,v1,v2,rfl⟩:=zK.slice U;have O:Hid (Yt r g N T w ql.2 #[.int .i64 4,.string (za t.s),.int .i64 0,.slice none 0 0,.int .i64 t.line] t wE):=y.out.moved o am ao;have bj:N<Z.heap.size:=(Array.getElem?_eq_some_iff.1 y.out.blkN).1;have ah:Hid (Zw Z.heap.size ((wE.setCell ⟨N,0,none⟩ (.int .i64 5)).setCell ⟨N,3,none⟩ (.slice v0 v1 v2)) ql.1 (.slice v0 v1 v2)):=zK.kept U (by simp) fun k hk _=>(Below.heap_setCell _ _ _ _ (by simp;omega)).trans (Below.heap_setCell _ _ _ _ (by simp;omega))
     have a6:w.heap.size<Z.heap.size:=(Array.getElem?_eq_some_iff.1 y.out.res).1;clear am U ao a7;obtain ⟨n0,n1,n2,n3,n4,nf⟩:=ze O.out.blkN;obtain ⟨x0,x1,x2,x3,x4,xf⟩:=ze O.out.res;obtain ⟨d0,d1,d2,d3,d4,df⟩:=ze O.out.blkT;have aH:¬ w.heap.size=N:=by have:=O.out.hN;omega
     have E:=((O.out.set o D 0 (.int .i64 5)).set o D 3 (.slice v0 v1 v2));obtain ⟨z0,z1,z2,z3,z4⟩:=zj E.res (.int .i64 5) (.string (za t.s)) (.int .i64 0) (.slice v0 v1 v2) (.int .i64 t.line)
     have HP:Hid (zN r g w q (.returned (.agg #[.int .i64 5,.string (za t.s),.int .i64 0,.slice v0 v1 v2,.int .i64 t.line])) (set5 ((wE.setCell ⟨N,0,none⟩ (.int .i64 5)).setCell ⟨N,3,none⟩ (.slice v0 v1 v2)) w.heap.size (.int .i64 5) (.string (za t.s)) (.int .i64 0) (.slice v0 v1 v2) (.int .i64 t.line))):=by
      have:=E.leave (B:=Z.heap.size) o D 5 t.s 0 ql.1 t.line (.slice v0 v1 v2) (ah.out) (by have:=O.out.hN;omega)
      rw [L.out];exact this
     clear E;go_wp2
     exact bodyPost_ret (v:=.agg #[.int .i64 5,.string (za t.s),.int .i64 0,.slice v0 v1 v2,.int .i64 t.line]) (by simp [results,Tryz.results135,go_sem,z0,z1,z2,z3,z4]) rfl HP.out
   ·have G:zW [40] (false,ts.tail)=false:=by simpa using hi
    rw [G,yD G] at az;have Y:=a3.out;rw [if_neg (by rw [←aD];exact hi)] at Y
    have L:Hid (q=(Ex.mk 4 t.s 0 [] t.line,(false,ts.tail))):=(Option.some.inj Y).symm;clear hi G aD Y a3;go_wp2_with fail
    go_region
    all_goals
     go_wp2_with fail
     refine (az _ (by first | exact ((V.out.set o D 0 (.int .i64 4)).set o D 1 (.string (za t.s))).drew | exact ((V.out.set o D 1 (.string (za t.s))).set o D 0 (.int .i64 4)).drew)).mono ?_
     rintro e Z ⟨rfl,av,ax⟩
     have y:Hid (Yt r g N T w (false,ts.tail) #[.int .i64 4,.string (za t.s),.int .i64 0,.slice none 0 0,.int .i64 t.line] t Z):=by
      first
      | exact (((V.out.set o D 0 (.int .i64 4)).set o D 1 (.string (za t.s))).drew).moved o av ax
      | exact (((V.out.set o D 1 (.string (za t.s))).set o D 0 (.int .i64 4)).drew).moved o av ax
     clear az av ax V m0 m1 m2 mf al d0 d1 d2 d3 d4 df n0 n1 n2 n3 n4 nf k1;obtain ⟨n0,n1,n2,n3,n4,nf⟩:=ze y.out.blkN;obtain ⟨x0,x1,x2,x3,x4,xf⟩:=ze y.out.res;obtain ⟨d0,d1,d2,d3,d4,df⟩:=ze y.out.blkT;have aH:¬ w.heap.size=N:=by have:=y.out.hN;omega
     have E:=y.out;obtain ⟨z0,z1,z2,z3,z4⟩:=zj E.res (.int .i64 4) (.string (za t.s)) (.int .i64 0) (.slice none 0 0) (.int .i64 t.line)
     have HP:Hid (zN r g w q (.returned (.agg #[.int .i64 4,.string (za t.s),.int .i64 0,.slice none 0 0,.int .i64 t.line])) (set5 Z w.heap.size (.int .i64 4) (.string (za t.s)) (.int .i64 0) (.slice none 0 0) (.int .i64 t.line))):=by
      have:=E.leave (B:=w.heap.size+1) o D 4 t.s 0 [] t.line (.slice none 0 0) (.inl ⟨rfl,rfl⟩) (by have:=y.out.hN;omega)
      rw [L.out];exact this
     clear E;go_wp2
     exact bodyPost_ret (v:=.agg #[.int .i64 4,.string (za t.s),.int .i64 0,.slice none 0 0,.int .i64 t.line]) (by simp [results,Tryz.results135,go_sem,z0,z1,z2,z3,z4]) rfl HP.out
  have k1:¬ (t.k:Int)=1:=by omega
  have br:((t.k:Int)==1)=false:=by rw [beq_eq_false_iff_ne];exact k1
  have z:=A.out;rw [if_neg c1] at z;have L:Hid (q=(Ex.mk 0 [] 0 [] t.line,(true,ts))):=(Option.some.inj z).symm;have V:Hid (Yt r g N T w (true,ts) #[.int .i64 0,.string ⟨#[]⟩,.int .i64 0,.slice none 0 0,.int .i64 t.line] t (ar.setCell ⟨r,2,none⟩ (.bool true))):=X.out.moved o ((zc.refl r ar).setCell 2 _) ⟨_,_,_,HB.out.fail⟩;obtain ⟨bx,bv,bA,bz,bw,bs⟩:=ze X.out.res;clear z A R HB X;obtain ⟨n0,n1,n2,n3,n4,nf⟩:=ze V.out.blkN;obtain ⟨x0,x1,x2,x3,x4,xf⟩:=ze V.out.res;obtain ⟨d0,d1,d2,d3,d4,df⟩:=ze V.out.blkT;have aH:¬ w.heap.size=N:=by have:=V.out.hN;omega
  have E:=V.out;obtain ⟨z0,z1,z2,z3,z4⟩:=zj E.res (.int .i64 0) (.string ⟨#[]⟩) (.int .i64 0) (.slice none 0 0) (.int .i64 t.line)
  have HP:Hid (zN r g w q (.returned (.agg #[.int .i64 0,.string ⟨#[]⟩,.int .i64 0,.slice none 0 0,.int .i64 t.line])) (set5 (ar.setCell ⟨r,2,none⟩ (.bool true)) w.heap.size (.int .i64 0) (.string ⟨#[]⟩) (.int .i64 0) (.slice none 0 0) (.int .i64 t.line))):=by
   have:=E.leave (B:=w.heap.size+1) o D 0 [] 0 [] t.line (.slice none 0 0) (.inl ⟨rfl,rfl⟩) (by have:=V.out.hN;omega)
   rw [L.out];exact this
  clear E;go_wp2
  exact bodyPost_ret (v:=.agg #[.int .i64 0,.string ⟨#[]⟩,.int .i64 0,.slice none 0 0,.int .i64 t.line]) (by simp [results,Tryz.results135,go_sem,z0,z1,z2,z3,z4]) rfl HP.out
 ·have L:Hid (q=(Ex.mk 0 [] 0 [] t.line,(true,ts))):=by
   have:=HQ.out
   rw [if_pos (by rfl)] at this
   exact (Option.some.inj this).symm
  simp only at m2;have aQ:=fun ob=>zd m2 ob
  have af:=fun ob ob'=>zd (aQ ob) ob'
  have I:∀ob ob',((M.alloc ob).alloc ob').heap[w.heap.size]?=some zL:=fun ob ob'=>by
   rw [Below.heap_alloc _ _ _ (by simp;omega),Below.heap_alloc _ _ _ (by omega)]
   exact ak.out
  have aA:=fun ob ob'=>(ze (I ob ob')).1
  have aG:=fun ob ob'=>(ze (I ob ob')).2.1
  have aB:=fun ob ob'=>(ze (I ob ob')).2.2.1
  have aC:=fun ob ob'=>(ze (I ob ob')).2.2.2.1
  have aF:=fun ob ob'=>(ze (I ob ob')).2.2.2.2.1
  have aE:=fun ob ob' j=>(ze (I ob ob')).2.2.2.2.2 j
  obtain ⟨z0,z1,z2,z3,z4⟩:=zj HA.out.res (.int .i64 0) (.string ⟨#[]⟩) (.int .i64 0) (.slice none 0 0) (.int .i64 t.line);clear HQ I ak;go_wp2
  refine bodyPost_ret (v:=.agg #[.int .i64 0,.string ⟨#[]⟩,.int .i64 0,.slice none 0 0,.int .i64 t.line]) (by simp [results,Tryz.results135,go_sem, *]) rfl ?_
  rw [L.out];exact HA.out.leave (B:=w.heap.size+1) o D 0 [] 0 [] t.line (.slice none 0 0) (.inl ⟨rfl,rfl⟩) (by omega)
end Go.Proofs.YtmbofhpmockmbaaGreatDoor
