import Derived.Test.YtmbofhpmockmbaaGreatDoorMC27
namespace Go.Proofs.YtmbofhpmockmbaaGreatDoor
open Go.RowKit Go.Shelf
set_option maxHeartbeats 16000000
set_option maxRecDepth 100000
theorem zb.far {r N:Nat} {w W:World} (h:zb r w W) (hN:w.heap.size≤N) (j:Nat) (v:Value):zb r w (W.setCell ⟨N,j,none⟩ v) :=
 ⟨h.os,h.tape,h.output,by simpa using h.size,fun k hk hr=>(Below.heap_setCell _ _ _ _ (by simp;omega)).trans (h.block k hk hr)⟩
theorem zB.far {r g N:Nat} {σ:RS} {W:World} (h:zB r g σ W) (hr:N≠r) (hg:N≠g) (j:Nat) (v:Value):zB r g σ (W.setCell ⟨N,j,none⟩ v) :=
 h.keep (Below.heap_setCell _ _ _ _ (by simp;omega)) (Below.heap_setCell _ _ _ _ (by simp;omega))
theorem zL.alloc {r g:Nat} {w W:World} {q:Ex × RS} {e:Ending} (h:zL r g w q e W) (ob:Obj):zL r g w q e (W.alloc ob):=by
 obtain ⟨y,v,rfl,o,z⟩:=h;exact ⟨y.alloc _,v,rfl,zM.kept o (by simp) fun k _ hlt=>Below.heap_alloc _ _ _ hlt,z.alloc _⟩
theorem zL.drew {r g:Nat} {w W:World} {q:Ex × RS} {e:Ending} (h:zL r g w q e W):zL r g w q e W.drew:=by
 obtain ⟨o,v,rfl,y,z⟩:=h;exact ⟨⟨o.os,o.tape,o.output,o.size,o.block⟩,v,rfl,zM.kept y (Nat.le_refl _) fun k _ hlt=>rfl,z.keep rfl rfl⟩
structure Ym (r g N T:Nat) (w:World) (σ:RS) (c:Array Value) (t:Tk) (W:World):Prop where
 blkN:W.heap[N]?=some (.cells c 90 (0,0))
 blkT:W.heap[T]?=some (.cells #[.int .i64 t.k,.string (za t.s),.int .i64 t.n,.int .i64 t.line,.int .i64 t.at0] 142 (0,0))
 res:W.heap[w.heap.size]?=some zJ
 rd:zB r g σ W
 kept:zb r w W
 hN:w.heap.size<N
 hT:w.heap.size<T∧T≠N
theorem Ym.moved {r g N T:Nat} {w W W':World} {σ σ':RS} {c:Array Value} {t:Tk} (h:Ym r g N T w σ c t W) (hr:r<w.heap.size) (hK:zb r W W') (hrd:zB r g σ' W'):Ym r g N T w σ' c t W' where
 blkN:=(hK.block _ (Array.getElem?_eq_some_iff.1 h.blkN).1 (by have:=h.hN;omega)).trans h.blkN
 blkT:=(hK.block _ (Array.getElem?_eq_some_iff.1 h.blkT).1 (by have:=h.hT;omega)).trans h.blkT
 res:=(hK.block _ (Array.getElem?_eq_some_iff.1 h.res).1 (by omega)).trans h.res
 rd:=hrd
 kept:=h.kept.trans hK
 hN:=h.hN
 hT:=h.hT
theorem Ym.set {r g N T:Nat} {w W:World} {σ:RS} {c:Array Value} {t:Tk} (h:Ym r g N T w σ c t W) (hr:r<w.heap.size) (hg:g<w.heap.size) (j:Nat) (v:Value):Ym r g N T w σ (c.setIfInBounds j v) t (W.setCell ⟨N,j,none⟩ v) where
 blkN:=Zd v h.blkN
 blkT:=(Below.heap_setCell _ _ _ _ (by have:=h.hT;simp;omega)).trans h.blkT
 res:=(Below.heap_setCell _ _ _ _ (by have:=h.hN;simp;omega)).trans h.res
 rd:=h.rd.far (by have:=h.hN;omega) (by have:=h.hN;omega) j v
 kept:=h.kept.far (Nat.le_of_lt h.hN) j v
 hN:=h.hN
 hT:=h.hT
theorem Ym.drew {r g N T:Nat} {w W:World} {σ:RS} {c:Array Value} {t:Tk} (h:Ym r g N T w σ c t W):Ym r g N T w σ c t W.drew where
 blkN:=h.blkN
 blkT:=h.blkT
 res:=h.res
 rd:=h.rd.keep rfl rfl
 kept:=⟨h.kept.os,h.kept.tape,h.kept.output,h.kept.size,h.kept.block⟩
 hN:=h.hN
 hT:=h.hT
theorem Ym.leave {r g N T B:Nat} {w W:World} {σ:RS} {c:Array Value} {t:Tk} (h:Ym r g N T w σ c t W) (hr:r<w.heap.size) (hg:g<w.heap.size) (k:Nat) (s:List UInt8) (n:Int) (l:List Ex) (line:Nat) (v:Value) (hrow:Zr B W l v) (hB:w.heap.size<B) :
  zL r g w (.mk k s n l line,σ) (.returned (.agg #[.int .i64 k,.string (za s),.int .i64 n,v,.int .i64 line])) (set5 W w.heap.size (.int .i64 k) (.string (za s)) (.int .i64 n) v (.int .i64 line)) :=
 zL.of_set5 k s n line h.kept (Nat.le_refl _) hr hg hrow hB h.rd
theorem Qj (r g F:Nat) (σ:RS) (w:World) (q:Ex × RS) (h:zB r g σ w) (hq:yb (F+1) σ=some q) (hex:Yd r g F) (hli:Ue r g F) :
  Calls Tryz.prog 135 #[.pointer (some ⟨r,0,none⟩)] w (zL r g w q):=by
 obtain ⟨o,D⟩:=h.lt;obtain ⟨bd,ts⟩:=σ;have ct:=x8 r g (bd,ts) (w.alloc zJ) (h.alloc _);obtain ⟨t,ht⟩:∃t,t=zu ts:=⟨_,rfl⟩;have a4:Hid (t=zu ts):=ht;simp only at ct;rw [←ht] at ct;rw [yb] at hq;simp only [←ht] at hq;have HQ:Hid (_=some q):=hq;have HH:Hid (zB r g (bd,ts) w):=h;have bp:Hid (Yd r g F):=hex;have a5:Hid (Ue r g F):=hli;clear ht h hex hli hq
 go_enter Tryz.func135,Tryz.ntmps135
 go_wp2_with fail
 refine ct.mono ?_;clear ct;rintro e M ⟨rfl,az⟩;have ba:w.heap.size+1≤M.heap.size:=by have:=az.size;simpa using this
 have p1:M.heap[w.heap.size]?=some zJ:=(az.block _ (by simp)).trans (World.alloc_heap_new w _)
 have hA:Ym r g (M.heap.size+1) M.heap.size w (bd,ts) #[.int .i64 0,.string ⟨#[]⟩,.int .i64 0,.slice none 0 0,.int .i64 t.line] t ((M.alloc (.cells #[.int .i64 t.k,.string (za t.s),.int .i64 t.n,.int .i64 t.line,.int .i64 t.at0] 142)).alloc (.cells #[.int .i64 0,.string ⟨#[]⟩,.int .i64 0,.slice none 0 0,.int .i64 t.line] 90)):=by
  refine ⟨?_,?_,?_,(((HH.out.alloc _).below az).alloc _).alloc _,((((zb.refl r w).alloc _).trans (zb.of az)).alloc _).alloc _,by omega,by omega⟩
  ·have:=World.alloc_heap_new (M.alloc (.cells #[.int .i64 t.k,.string (za t.s),.int .i64 t.n,.int .i64 t.line,.int .i64 t.at0] 142)) (.cells #[.int .i64 0,.string ⟨#[]⟩,.int .i64 0,.slice none 0 0,.int .i64 t.line] 90)
   simpa using this
  ·rw [Below.heap_alloc _ _ _ (by simp)]
   exact World.alloc_heap_new _ _
  ·rw [Below.heap_alloc _ _ _ (by simp;omega),Below.heap_alloc _ _ _ (by omega)]
   exact p1
 have aa:Hid (zB r g (bd,ts) M∧zb r w M):=⟨(HH.out.alloc _).below az,((zb.refl r w).alloc _).trans (zb.of az)⟩;simp only [YH];have HA:Hid (Ym r g (M.heap.size+1) M.heap.size w (bd,ts) #[.int .i64 0,.string ⟨#[]⟩,.int .i64 0,.slice none 0 0,.int .i64 t.line] t ((M.alloc (.cells #[.int .i64 t.k,.string (za t.s),.int .i64 t.n,.int .i64 t.line,.int .i64 t.at0] 142)).alloc (.cells #[.int .i64 0,.string ⟨#[]⟩,.int .i64 0,.slice none 0 0,.int .i64 t.line] 90))):=hA;obtain ⟨pp,aV,TS,hb⟩:=aa.out.1;obtain ⟨m0,m1,m2,mf⟩:=z7 hb.blk;have an:pp≤1099511627776:=by have:=hb.lt;have:=hb.few;omega
 have HB:Hid (ZX r g pp aV TS (bd,ts) M):=hb;obtain ⟨y0,y1,y2,y3,y4,yf⟩:=zd p1;have ai:Hid (M.heap[w.heap.size]?=some zJ):=p1;clear hA hb az HH p1;cases bd
 ·have aI:Hid ((if t.k=2 then some (Ex.mk 1 [] t.n [] t.line,(false,ts.tail)) else
    if t.k=3 then some (Ex.mk 3 t.s 0 [] t.line,(false,ts.tail)) else
    if zk t [116,114,117,101]=true then some (Ex.mk 2 [] 1 [] t.line,(false,ts.tail)) else
    if zk t [102,97,108,115,101]=true then some (Ex.mk 2 [] 0 [] t.line,(false,ts.tail)) else
    if zk t [110,101,119]=true then (ZN F [41] false (Za [40] (nameF (false,ts.tail)).2)).bind fun l=>some (Ex.mk 11 (nameF (false,ts.tail)).1 0 l.1 t.line,l.2) else
    if zk t [91]=true then (ZN F [93] true (false,ts.tail)).bind fun l=>some (Ex.mk 10 [] 0 l.1 t.line,l.2) else
    if zk t [40]=true then (yO F 0 (false,ts.tail)).bind fun q=>some (q.1,Za [41] q.2) else
    if t.k=1 then (if zk (zu ts.tail) [40]=true then (ZN F [41] false (false,ts.tail.tail)).bind fun l=>some (Ex.mk 5 t.s 0 l.1 t.line,l.2) else some (Ex.mk 4 t.s 0 [] t.line,(false,ts.tail)))
    else some (Ex.mk 0 [] 0 [] t.line,(true,ts)):Option (Ex × RS))=some q):=by
   have:=HQ.out
   rw [if_neg (by simp)] at this
   exact this
  clear HQ;have R:Hid (∀s,zU s (false,ts)=zk t s):=fun s=>by rw [yP,←a4.out]
  simp only at m2
  by_cases c2:t.k=2
  ·have z:=aI.out
   rw [if_pos c2] at z;obtain ⟨tk,tS,tn,tl,ta⟩:=t;simp only at c2;subst c2;have L:Hid (q=(Ex.mk 1 [] tn [] tl,(false,ts.tail))):=(Option.some.inj z).symm;have a2:Hid (Ym r g (M.heap.size+1) M.heap.size w (false,ts) #[.int .i64 0,.string ⟨#[]⟩,.int .i64 0,.slice none 0 0,.int .i64 tl] ⟨2,tS,tn,tl,ta⟩ ((M.alloc (.cells #[.int .i64 2,.string (za tS),.int .i64 tn,.int .i64 tl,.int .i64 ta] 142)).alloc (.cells #[.int .i64 0,.string ⟨#[]⟩,.int .i64 0,.slice none 0 0,.int .i64 tl] 90))):=HA.out;have ae:∀ob ob',ZX r g pp aV TS (false,ts) ((M.alloc ob).alloc ob'):=fun ob ob'=>(HB.out.keep (Below.heap_alloc _ _ _ aa.out.1.lt.1) (Below.heap_alloc _ _ _ aa.out.1.lt.2)).keep (Below.heap_alloc _ _ _ (by have:=aa.out.1.lt.1;simp;omega)) (Below.heap_alloc _ _ _ (by have:=aa.out.1.lt.2;simp;omega))
   have HG:Hid (Ym r g (M.heap.size+1) M.heap.size w (false,ts.tail) #[.int .i64 0,.string ⟨#[]⟩,.int .i64 0,.slice none 0 0,.int .i64 tl] ⟨2,tS,tn,tl,ta⟩ (((M.alloc (.cells #[.int .i64 2,.string (za tS),.int .i64 tn,.int .i64 tl,.int .i64 ta] 142)).alloc (.cells #[.int .i64 0,.string ⟨#[]⟩,.int .i64 0,.slice none 0 0,.int .i64 tl] 90)).setCell ⟨r,1,none⟩ (.int .i64 ((pp:Int)+1)))):=a2.out.moved o ((zb.refl r _).setCell 1 _) ⟨_,_,_,(ae _ _).step (by show (zu ts).k≠0;rw [←a4.out];exact Nat.succ_ne_zero _)⟩
   have a0:=fun ob ob'=>(z7 (ae ob ob').blk).2.1
   have ad:=fun ob ob'=>(z7 (ae ob ob').blk).2.2.1
   have aU:=fun ob ob' j=>(z7 (ae ob ob').blk).2.2.2 j
   have I:∀ob ob',((M.alloc ob).alloc ob').heap[w.heap.size]?=some zJ:=fun ob ob'=>by
    rw [Below.heap_alloc _ _ _ (by simp;omega),Below.heap_alloc _ _ _ (by omega)]
    exact ai.out
   have aF:=fun ob ob'=>(zd (I ob ob')).1
   have aB:=fun ob ob'=>(zd (I ob ob')).2.1
   have aD:=fun ob ob'=>(zd (I ob ob')).2.2.1
   have aE:=fun ob ob'=>(zd (I ob ob')).2.2.2.1
   have aG:=fun ob ob'=>(zd (I ob ob')).2.2.2.2.1
   have aA:=fun ob ob' j=>(zd (I ob ob')).2.2.2.2.2 j
   have bo:IntKind.i64.wrap ((pp:Int)+1)=(pp:Int)+1:=by rw [IntKind.wrap_i64];omega
   have bm:¬ w.heap.size=M.heap.size+1:=by omega
   have bk:¬ r=M.heap.size+1:=by have:=aa.out.1.lt.1;omega
   have bl:¬ r=M.heap.size:=by have:=aa.out.1.lt.1;omega
   clear z aI R HA a2 ae I ai;go_wp2_with fail
   go_region
   all_goals
    obtain ⟨z0,z1,z2,z3,z4⟩:=zi ((HG.out.set o D 0 (.int .i64 1)).set o D 2 (.int .i64 tn)).res (.int .i64 1) (.string (za [])) (.int .i64 tn) (.slice none 0 0) (.int .i64 tl);go_wp2
    clear a0 ad aU aF aB aD aE aG aA;refine bodyPost_ret (v:=.agg #[.int .i64 1,.string (za []),.int .i64 tn,.slice none 0 0,.int .i64 tl]) (by simp [results,Tryz.results135,go_sem,z0,z1,z2,z3,z4]) rfl ?_
    rw [L.out]
    first
    | exact zL.drew (((HG.out.set o D 0 (.int .i64 1)).set o D 2 (.int .i64 tn)).leave (B:=w.heap.size+1) o D 1 [] tn [] tl (.slice none 0 0) (.inl ⟨rfl,rfl⟩) (by omega))
    | exact zL.drew (((HG.out.set o D 2 (.int .i64 tn)).set o D 0 (.int .i64 1)).leave (B:=w.heap.size+1) o D 1 [] tn [] tl (.slice none 0 0) (.inl ⟨rfl,rfl⟩) (by omega))
  by_cases c3:t.k=3
  ·have z:=aI.out
   rw [if_neg c2,if_pos c3] at z;obtain ⟨tk,tS,tn,tl,ta⟩:=t;simp only at c3;subst c3;have L:Hid (q=(Ex.mk 3 tS 0 [] tl,(false,ts.tail))):=(Option.some.inj z).symm;have a2:Hid (Ym r g (M.heap.size+1) M.heap.size w (false,ts) #[.int .i64 0,.string ⟨#[]⟩,.int .i64 0,.slice none 0 0,.int .i64 tl] ⟨3,tS,tn,tl,ta⟩ ((M.alloc (.cells #[.int .i64 3,.string (za tS),.int .i64 tn,.int .i64 tl,.int .i64 ta] 142)).alloc (.cells #[.int .i64 0,.string ⟨#[]⟩,.int .i64 0,.slice none 0 0,.int .i64 tl] 90))):=HA.out;have ae:∀ob ob',ZX r g pp aV TS (false,ts) ((M.alloc ob).alloc ob'):=fun ob ob'=>(HB.out.keep (Below.heap_alloc _ _ _ aa.out.1.lt.1) (Below.heap_alloc _ _ _ aa.out.1.lt.2)).keep (Below.heap_alloc _ _ _ (by have:=aa.out.1.lt.1;simp;omega)) (Below.heap_alloc _ _ _ (by have:=aa.out.1.lt.2;simp;omega))
   have HG:Hid (Ym r g (M.heap.size+1) M.heap.size w (false,ts.tail) #[.int .i64 0,.string ⟨#[]⟩,.int .i64 0,.slice none 0 0,.int .i64 tl] ⟨3,tS,tn,tl,ta⟩ (((M.alloc (.cells #[.int .i64 3,.string (za tS),.int .i64 tn,.int .i64 tl,.int .i64 ta] 142)).alloc (.cells #[.int .i64 0,.string ⟨#[]⟩,.int .i64 0,.slice none 0 0,.int .i64 tl] 90)).setCell ⟨r,1,none⟩ (.int .i64 ((pp:Int)+1)))):=a2.out.moved o ((zb.refl r _).setCell 1 _) ⟨_,_,_,(ae _ _).step (by show (zu ts).k≠0;rw [←a4.out];exact Nat.succ_ne_zero _)⟩
   have a0:=fun ob ob'=>(z7 (ae ob ob').blk).2.1
   have ad:=fun ob ob'=>(z7 (ae ob ob').blk).2.2.1
   have aU:=fun ob ob' j=>(z7 (ae ob ob').blk).2.2.2 j
   have I:∀ob ob',((M.alloc ob).alloc ob').heap[w.heap.size]?=some zJ:=fun ob ob'=>by
    rw [Below.heap_alloc _ _ _ (by simp;omega),Below.heap_alloc _ _ _ (by omega)]
    exact ai.out
   have aF:=fun ob ob'=>(zd (I ob ob')).1
   have aB:=fun ob ob'=>(zd (I ob ob')).2.1
   have aD:=fun ob ob'=>(zd (I ob ob')).2.2.1
   have aE:=fun ob ob'=>(zd (I ob ob')).2.2.2.1
   have aG:=fun ob ob'=>(zd (I ob ob')).2.2.2.2.1
   have aA:=fun ob ob' j=>(zd (I ob ob')).2.2.2.2.2 j
   have bo:IntKind.i64.wrap ((pp:Int)+1)=(pp:Int)+1:=by rw [IntKind.wrap_i64];omega
   have bm:¬ w.heap.size=M.heap.size+1:=by omega
   have bk:¬ r=M.heap.size+1:=by have:=aa.out.1.lt.1;omega
   have bl:¬ r=M.heap.size:=by have:=aa.out.1.lt.1;omega
   clear z aI R HA a2 ae I ai;go_wp2_with fail
   go_region
   all_goals
    obtain ⟨z0,z1,z2,z3,z4⟩:=zi ((HG.out.set o D 0 (.int .i64 3)).set o D 1 (.string (za tS))).res (.int .i64 3) (.string (za tS)) (.int .i64 0) (.slice none 0 0) (.int .i64 tl);go_wp2
    clear a0 ad aU aF aB aD aE aG aA;refine bodyPost_ret (v:=.agg #[.int .i64 3,.string (za tS),.int .i64 0,.slice none 0 0,.int .i64 tl]) (by simp [results,Tryz.results135,go_sem,z0,z1,z2,z3,z4]) rfl ?_
    rw [L.out]
    first
    | exact zL.drew (((HG.out.set o D 0 (.int .i64 3)).set o D 1 (.string (za tS))).leave (B:=w.heap.size+1) o D 3 tS 0 [] tl (.slice none 0 0) (.inl ⟨rfl,rfl⟩) (by omega))
    | exact zL.drew (((HG.out.set o D 1 (.string (za tS))).set o D 0 (.int .i64 3)).leave (B:=w.heap.size+1) o D 3 tS 0 [] tl (.slice none 0 0) (.inl ⟨rfl,rfl⟩) (by omega))
  have H:=aI.out;rw [if_neg c2,if_neg c3] at H;have A:Hid (_=some q):=H;have k2:¬ (t.k:Int)=2:=by omega
  have k3:¬ (t.k:Int)=3:=by omega
  have bj:((t.k:Int)==2)=false:=by rw [beq_eq_false_iff_ne];exact k2
  have bh:((t.k:Int)==3)=false:=by rw [beq_eq_false_iff_ne];exact k3
  have Q:=ym r g (false,ts) [116,114,117,101] _ HA.out.rd;have aM:=fun ob=>zc m2 ob
  have ad:=fun ob ob'=>zc (aM ob) ob'
  clear aI c2 c3 H
  by_cases hi:zU [116,114,117,101] (false,ts)=true
  ·rw [hi,Z7 hi] at Q
   simp only at Q;have z:=A.out;rw [if_pos (by rw [←R.out];exact hi)] at z
   go_wp2_with fail
   refine Q.mono ?_;clear Q;rintro e Y ⟨rfl,K,J⟩;have aZ:=HA.out.moved o K J;obtain ⟨N,hN⟩:∃N,N=M.heap.size+1:=⟨_,rfl⟩;obtain ⟨T,hT⟩:∃T,T=M.heap.size:=⟨_,rfl⟩;have aP:M.heap.size=T:=hT.symm;rw [←hN,aP] at aZ ⊢;have y:Hid (Ym r g N T w (false,ts.tail) #[.int .i64 0,.string ⟨#[]⟩,.int .i64 0,.slice none 0 0,.int .i64 t.line] t Y):=aZ;clear hN hT aP aZ K J HA aa HB ai m0 m1 m2 aM ad mf y0 y1 y2 y3 y4 yf ba an k2 k3 bj bh;have L:Hid (q=(Ex.mk 2 [] 1 [] t.line,(false,ts.tail))):=(Option.some.inj z).symm;clear z A R hi;obtain ⟨n0,n1,n2,n3,n4,nf⟩:=zd y.out.blkN;obtain ⟨x0,x1,x2,x3,x4,xf⟩:=zd y.out.res;obtain ⟨d0,d1,d2,d3,d4,df⟩:=zd y.out.blkT;have aJ:¬ w.heap.size=N:=by have:=y.out.hN;omega
   have E:=((y.out.set o D 0 (.int .i64 2)).set o D 2 (.int .i64 1));obtain ⟨z0,z1,z2,z3,z4⟩:=zi E.res (.int .i64 2) (.string ⟨#[]⟩) (.int .i64 1) (.slice none 0 0) (.int .i64 t.line)
   have HP:Hid (zL r g w q (.returned (.agg #[.int .i64 2,.string ⟨#[]⟩,.int .i64 1,.slice none 0 0,.int .i64 t.line])) (set5 ((Y.setCell ⟨N,0,none⟩ (.int .i64 2)).setCell ⟨N,2,none⟩ (.int .i64 1)) w.heap.size (.int .i64 2) (.string ⟨#[]⟩) (.int .i64 1) (.slice none 0 0) (.int .i64 t.line))):=by
    have:=E.leave (B:=w.heap.size+1) o D 2 [] 1 [] t.line (.slice none 0 0) (.inl ⟨rfl,rfl⟩) (by have:=y.out.hN;omega)
    rw [L.out];exact this
   clear E;go_wp2
   exact bodyPost_ret (v:=.agg #[.int .i64 2,.string ⟨#[]⟩,.int .i64 1,.slice none 0 0,.int .i64 t.line]) (by simp [results,Tryz.results135,go_sem,z0,z1,z2,z3,z4]) rfl HP.out
  have G:zU [116,114,117,101] (false,ts)=false:=by simpa using hi
  rw [G,yy G] at Q;have H:=A.out;rw [if_neg (by rw [←R.out];exact hi)] at H
  clear A;have A:Hid (_=some q):=H;clear H hi G;go_wp2_with fail
  refine Q.mono ?_;clear Q;rintro e be ⟨rfl,aW,aT⟩;have aq:=HA.out.moved o aW aT;obtain ⟨N,hN⟩:∃N,N=M.heap.size+1:=⟨_,rfl⟩;obtain ⟨T,hT⟩:∃T,T=M.heap.size:=⟨_,rfl⟩;have aP:M.heap.size=T:=hT.symm;rw [←hN,aP] at aq ⊢;have aj:Hid (Ym r g N T w (false,ts) #[.int .i64 0,.string ⟨#[]⟩,.int .i64 0,.slice none 0 0,.int .i64 t.line] t be):=aq;clear hN hT aP aq aW aT HA aa HB ai m0 m1 m2 aM ad mf y0 y1 y2 y3 y4 yf ba an k2 k3 bj bh;have Q:=ym r g (false,ts) [102,97,108,115,101] be aj.out.rd
  by_cases hi:zU [102,97,108,115,101] (false,ts)=true
  ·rw [hi,Z7 hi] at Q
   simp only at Q;have z:=A.out;rw [if_pos (by rw [←R.out];exact hi)] at z
   go_wp2_with fail
   refine Q.mono ?_;clear Q;rintro e Y ⟨rfl,K,J⟩;have y:Hid (Ym r g N T w (false,ts.tail) #[.int .i64 0,.string ⟨#[]⟩,.int .i64 0,.slice none 0 0,.int .i64 t.line] t Y):=aj.out.moved o K J;clear K J aj;have L:Hid (q=(Ex.mk 2 [] 0 [] t.line,(false,ts.tail))):=(Option.some.inj z).symm;clear z A R hi;obtain ⟨n0,n1,n2,n3,n4,nf⟩:=zd y.out.blkN;obtain ⟨x0,x1,x2,x3,x4,xf⟩:=zd y.out.res;obtain ⟨d0,d1,d2,d3,d4,df⟩:=zd y.out.blkT;have aJ:¬ w.heap.size=N:=by have:=y.out.hN;omega
   have E:=(y.out.set o D 0 (.int .i64 2));obtain ⟨z0,z1,z2,z3,z4⟩:=zi E.res (.int .i64 2) (.string ⟨#[]⟩) (.int .i64 0) (.slice none 0 0) (.int .i64 t.line)
   have HP:Hid (zL r g w q (.returned (.agg #[.int .i64 2,.string ⟨#[]⟩,.int .i64 0,.slice none 0 0,.int .i64 t.line])) (set5 (Y.setCell ⟨N,0,none⟩ (.int .i64 2)) w.heap.size (.int .i64 2) (.string ⟨#[]⟩) (.int .i64 0) (.slice none 0 0) (.int .i64 t.line))):=by
    have:=E.leave (B:=w.heap.size+1) o D 2 [] 0 [] t.line (.slice none 0 0) (.inl ⟨rfl,rfl⟩) (by have:=y.out.hN;omega)
    rw [L.out];exact this
   clear E;go_wp2
   exact bodyPost_ret (v:=.agg #[.int .i64 2,.string ⟨#[]⟩,.int .i64 0,.slice none 0 0,.int .i64 t.line]) (by simp [results,Tryz.results135,go_sem,z0,z1,z2,z3,z4]) rfl HP.out
  have G:zU [102,97,108,115,101] (false,ts)=false:=by simpa using hi
  rw [G,yy G] at Q;have H:=A.out;rw [if_neg (by rw [←R.out];exact hi)] at H
  clear A;have A:Hid (_=some q):=H;clear H hi G;go_wp2_with fail
  refine Q.mono ?_;clear Q;rintro e bc ⟨rfl,aS,aO⟩;have al:Hid (Ym r g N T w (false,ts) #[.int .i64 0,.string ⟨#[]⟩,.int .i64 0,.slice none 0 0,.int .i64 t.line] t bc):=aj.out.moved o aS aO;clear aS aO aj;have Q:=ym r g (false,ts) [110,101,119] bc al.out.rd
  by_cases hi:zU [110,101,119] (false,ts)=true
  ·rw [hi,Z7 hi] at Q
   simp only at Q;have z:=A.out;rw [if_pos (by rw [←R.out];exact hi)] at z
   go_wp2_with fail
   refine Q.mono ?_;clear Q;rintro e Y ⟨rfl,K,J⟩;have y:Hid (Ym r g N T w (false,ts.tail) #[.int .i64 0,.string ⟨#[]⟩,.int .i64 0,.slice none 0 0,.int .i64 t.line] t Y):=al.out.moved o K J;clear K J al;obtain ⟨ql,Z,ab⟩:=Option.bind_eq_some_iff.1 z;have cn:=Qp r g (false,ts.tail) Y y.out.rd;generalize nameF (false,ts.tail)=qn at *;have L:Hid (q=(Ex.mk 11 qn.1 0 ql.1 t.line,ql.2)):=(Option.some.inj ab).symm;clear z ab A R hi;go_wp2_with fail
   refine cn.mono ?_;clear cn;rintro e wC ⟨rfl,aR,aK⟩;have av:Hid (Ym r g N T w qn.2 #[.int .i64 0,.string ⟨#[]⟩,.int .i64 0,.slice none 0 0,.int .i64 t.line] t wC):=y.out.moved o aR aK;clear aR aK;obtain ⟨n0,n1,n2,n3,n4,nf⟩:=zd av.out.blkN;have af:Hid (Ym r g N T w qn.2 #[.int .i64 11,.string (za qn.1),.int .i64 0,.slice none 0 0,.int .i64 t.line] t ((wC.setCell ⟨N,0,none⟩ (.int .i64 11)).setCell ⟨N,1,none⟩ (.string (za qn.1)))):=(av.out.set o D 0 (.int .i64 11)).set o D 1 (.string (za qn.1));have cm:=Vu r g qn.2 [40] _ af.out.rd;clear y;go_wp2_with fail
   refine cm.mono ?_;clear cm n0 n1 n2 n3 n4 nf;rintro e wD ⟨rfl,au,aH⟩;have ag:Hid (Ym r g N T w (Za [40] qn.2) #[.int .i64 11,.string (za qn.1),.int .i64 0,.slice none 0 0,.int .i64 t.line] t wD):=af.out.moved o au aH;clear au aH av af;have cl:=a5.out F (Nat.le_refl _) [41] false _ ql wD Z ag.out.rd;go_wp2_with fail
   refine cl.mono ?_;clear cl;rintro e wE ⟨ah,v,rfl,U,ao⟩;obtain ⟨v0,v1,v2,rfl⟩:=zI.slice U;have O:Hid (Ym r g N T w ql.2 #[.int .i64 11,.string (za qn.1),.int .i64 0,.slice none 0 0,.int .i64 t.line] t wE):=ag.out.moved o ah ao;have bf:N<wD.heap.size:=(Array.getElem?_eq_some_iff.1 ag.out.blkN).1;have am:Hid (Zr wD.heap.size (wE.setCell ⟨N,3,none⟩ (.slice v0 v1 v2)) ql.1 (.slice v0 v1 v2)):=zI.kept U (by simp) fun k hk _=>Below.heap_setCell _ _ _ _ (by simp;omega)
   clear ah U ao Z;obtain ⟨n0,n1,n2,n3,n4,nf⟩:=zd O.out.blkN;obtain ⟨x0,x1,x2,x3,x4,xf⟩:=zd O.out.res;obtain ⟨d0,d1,d2,d3,d4,df⟩:=zd O.out.blkT;have aJ:¬ w.heap.size=N:=by have:=O.out.hN;omega
   have E:=(O.out.set o D 3 (.slice v0 v1 v2));obtain ⟨z0,z1,z2,z3,z4⟩:=zi E.res (.int .i64 11) (.string (za qn.1)) (.int .i64 0) (.slice v0 v1 v2) (.int .i64 t.line)
   have HP:Hid (zL r g w q (.returned (.agg #[.int .i64 11,.string (za qn.1),.int .i64 0,.slice v0 v1 v2,.int .i64 t.line])) (set5 (wE.setCell ⟨N,3,none⟩ (.slice v0 v1 v2)) w.heap.size (.int .i64 11) (.string (za qn.1)) (.int .i64 0) (.slice v0 v1 v2) (.int .i64 t.line))):=by
    have:=E.leave (B:=wD.heap.size) o D 11 qn.1 0 ql.1 t.line (.slice v0 v1 v2) (am.out) (by have:=O.out.hN;omega)
    rw [L.out];exact this
   clear E;go_wp2
   exact bodyPost_ret (v:=.agg #[.int .i64 11,.string (za qn.1),.int .i64 0,.slice v0 v1 v2,.int .i64 t.line]) (by simp [results,Tryz.results135,go_sem,z0,z1,z2,z3,z4]) rfl HP.out
  have G:zU [110,101,119] (false,ts)=false:=by simpa using hi
  rw [G,yy G] at Q;have H:=A.out;rw [if_neg (by rw [←R.out];exact hi)] at H
  clear A;have A:Hid (_=some q):=H;clear H hi G;go_wp2_with fail
  refine Q.mono ?_;clear Q;rintro e a7 ⟨rfl,aL,aY⟩;have ak:Hid (Ym r g N T w (false,ts) #[.int .i64 0,.string ⟨#[]⟩,.int .i64 0,.slice none 0 0,.int .i64 t.line] t a7):=al.out.moved o aL aY;clear aL aY al;have Q:=ym r g (false,ts) [91] a7 ak.out.rd
  by_cases hi:zU [91] (false,ts)=true
  ·rw [hi,Z7 hi] at Q
   simp only at Q;have z:=A.out;rw [if_pos (by rw [←R.out];exact hi)] at z
   go_wp2_with fail
   refine Q.mono ?_;clear Q;rintro e Y ⟨rfl,K,J⟩;have y:Hid (Ym r g N T w (false,ts.tail) #[.int .i64 0,.string ⟨#[]⟩,.int .i64 0,.slice none 0 0,.int .i64 t.line] t Y):=ak.out.moved o K J;clear K J ak;obtain ⟨ql,Z,ab⟩:=Option.bind_eq_some_iff.1 z;have L:Hid (q=(Ex.mk 10 [] 0 ql.1 t.line,ql.2)):=(Option.some.inj ab).symm;have cl:=a5.out F (Nat.le_refl _) [93] true _ ql Y Z y.out.rd;clear z ab A R hi;go_wp2_with fail
   refine cl.mono ?_;clear cl;rintro e wE ⟨ah,v,rfl,U,ao⟩;obtain ⟨v0,v1,v2,rfl⟩:=zI.slice U;have O:Hid (Ym r g N T w ql.2 #[.int .i64 0,.string ⟨#[]⟩,.int .i64 0,.slice none 0 0,.int .i64 t.line] t wE):=y.out.moved o ah ao;have bf:N<Y.heap.size:=(Array.getElem?_eq_some_iff.1 y.out.blkN).1;have am:Hid (Zr Y.heap.size ((wE.setCell ⟨N,0,none⟩ (.int .i64 10)).setCell ⟨N,3,none⟩ (.slice v0 v1 v2)) ql.1 (.slice v0 v1 v2)):=zI.kept U (by simp) fun k hk _=>(Below.heap_setCell _ _ _ _ (by simp;omega)).trans (Below.heap_setCell _ _ _ _ (by simp;omega))
   clear ah U ao Z;obtain ⟨n0,n1,n2,n3,n4,nf⟩:=zd O.out.blkN;obtain ⟨x0,x1,x2,x3,x4,xf⟩:=zd O.out.res;obtain ⟨d0,d1,d2,d3,d4,df⟩:=zd O.out.blkT;have aJ:¬ w.heap.size=N:=by have:=O.out.hN;omega
   have E:=((O.out.set o D 0 (.int .i64 10)).set o D 3 (.slice v0 v1 v2));obtain ⟨z0,z1,z2,z3,z4⟩:=zi E.res (.int .i64 10) (.string ⟨#[]⟩) (.int .i64 0) (.slice v0 v1 v2) (.int .i64 t.line)
   have HP:Hid (zL r g w q (.returned (.agg #[.int .i64 10,.string ⟨#[]⟩,.int .i64 0,.slice v0 v1 v2,.int .i64 t.line])) (set5 ((wE.setCell ⟨N,0,none⟩ (.int .i64 10)).setCell ⟨N,3,none⟩ (.slice v0 v1 v2)) w.heap.size (.int .i64 10) (.string ⟨#[]⟩) (.int .i64 0) (.slice v0 v1 v2) (.int .i64 t.line))):=by
    have:=E.leave (B:=Y.heap.size) o D 10 [] 0 ql.1 t.line (.slice v0 v1 v2) (am.out) (by have:=O.out.hN;omega)
    rw [L.out];exact this
   clear E;go_wp2
   exact bodyPost_ret (v:=.agg #[.int .i64 10,.string ⟨#[]⟩,.int .i64 0,.slice v0 v1 v2,.int .i64 t.line]) (by simp [results,Tryz.results135,go_sem,z0,z1,z2,z3,z4]) rfl HP.out
  have G:zU [91] (false,ts)=false:=by simpa using hi
  rw [G,yy G] at Q;have H:=A.out;rw [if_neg (by rw [←R.out];exact hi)] at H
  clear A;have A:Hid (_=some q):=H;clear H hi G;go_wp2_with fail
  refine Q.mono ?_;clear Q;rintro e bg ⟨rfl,a1,aX⟩;have ap:Hid (Ym r g N T w (false,ts) #[.int .i64 0,.string ⟨#[]⟩,.int .i64 0,.slice none 0 0,.int .i64 t.line] t bg):=ak.out.moved o a1 aX;clear a1 aX ak;have Q:=ym r g (false,ts) [40] bg ap.out.rd
  by_cases hi:zU [40] (false,ts)=true
  ·rw [hi,Z7 hi] at Q
   simp only at Q;have z:=A.out;rw [if_pos (by rw [←R.out];exact hi)] at z
   go_wp2_with fail
   refine Q.mono ?_;clear Q;rintro e Y ⟨rfl,K,J⟩;have y:Hid (Ym r g N T w (false,ts.tail) #[.int .i64 0,.string ⟨#[]⟩,.int .i64 0,.slice none 0 0,.int .i64 t.line] t Y):=ap.out.moved o K J;clear K J ap;obtain ⟨qe,Z,ab⟩:=Option.bind_eq_some_iff.1 z;have L:Hid (q=(qe.1,Za [41] qe.2)):=(Option.some.inj ab).symm;have ce:Calls Tryz.prog 91 #[.pointer (some ⟨r,0,none⟩),.int .i64 0] Y (zL r g Y qe):=bp.out F (Nat.le_refl _) 0 _ qe Y (by omega) Z y.out.rd
   clear z ab A R hi Z;go_wp2_with fail
   refine ce.mono ?_;clear ce;rintro e wC ⟨aR,v,rfl,hx,aK⟩;obtain ⟨a,b,c,d0,d1,d2,l,rfl⟩:=hx.agg;have av:Hid (Ym r g N T w qe.2 #[.int .i64 0,.string ⟨#[]⟩,.int .i64 0,.slice none 0 0,.int .i64 t.line] t wC):=y.out.moved o aR aK;have af:Hid (Ym r g N T w qe.2 #[.int .i64 a,.string b,.int .i64 c,.slice d0 d1 d2,.int .i64 l] t (set5 wC N (.int .i64 a) (.string b) (.int .i64 c) (.slice d0 d1 d2) (.int .i64 l))):=((((av.out.set o D 0 (.int .i64 a)).set o D 1 (.string b)).set o D 2 (.int .i64 c)).set o D 3 (.slice d0 d1 d2)).set o D 4 (.int .i64 l);have bn:N<Y.heap.size:=(Array.getElem?_eq_some_iff.1 y.out.blkN).1;have a8:Hid (zM Y.heap.size (set5 wC N (.int .i64 a) (.string b) (.int .i64 c) (.slice d0 d1 d2) (.int .i64 l)) qe.1 (.agg #[.int .i64 a,.string b,.int .i64 c,.slice d0 d1 d2,.int .i64 l])):=zM.kept hx (by simp) fun k hk _=>zh _ _ _ _ _ _ _ (by omega)
   obtain ⟨n0,n1,n2,n3,n4,nf⟩:=zd av.out.blkN;have cm:=Vu r g qe.2 [41] _ af.out.rd;clear aR aK hx;go_wp2_with fail
   refine cm.mono ?_;clear cm n0 n1 n2 n3 n4 nf;rintro e wD ⟨rfl,au,aH⟩;have ag:Hid (Ym r g N T w (Za [41] qe.2) #[.int .i64 a,.string b,.int .i64 c,.slice d0 d1 d2,.int .i64 l] t wD):=af.out.moved o au aH;have a6:w.heap.size<Y.heap.size:=(Array.getElem?_eq_some_iff.1 y.out.res).1;have bi:zM Y.heap.size wD qe.1 (.agg #[.int .i64 a,.string b,.int .i64 c,.slice d0 d1 d2,.int .i64 l]):=zM.kept a8.out au.size fun k hk hlt=>au.block k hlt (by omega)
   have HP:Hid (zL r g w q (.returned (.agg #[.int .i64 a,.string b,.int .i64 c,.slice d0 d1 d2,.int .i64 l])) (set5 wD w.heap.size (.int .i64 a) (.string b) (.int .i64 c) (.slice d0 d1 d2) (.int .i64 l))):=by
    have:=zL.of_set5' ag.out.kept (Nat.le_refl _) o D bi a6 aH
    rw [L.out];exact this
   obtain ⟨n0,n1,n2,n3,n4,nf⟩:=zd ag.out.blkN;obtain ⟨x0,x1,x2,x3,x4,xf⟩:=zd ag.out.res;obtain ⟨z0,z1,z2,z3,z4⟩:=zi ag.out.res (.int .i64 a) (.string b) (.int .i64 c) (.slice d0 d1 d2) (.int .i64 l);clear au aH av af y a8 bi ag bn a6;go_wp2
   exact bodyPost_ret (v:=.agg #[.int .i64 a,.string b,.int .i64 c,.slice d0 d1 d2,.int .i64 l]) (by simp [results,Tryz.results135,go_sem,z0,z1,z2,z3,z4]) rfl HP.out
  have G:zU [40] (false,ts)=false:=by simpa using hi
  rw [G,yy G] at Q;have H:=A.out;rw [if_neg (by rw [←R.out];exact hi)] at H
  clear A;have A:Hid (_=some q):=H;clear H hi G;go_wp2_with fail
  refine Q.mono ?_;clear Q;rintro e ax ⟨rfl,aN,aQ⟩;have X:Hid (Ym r g N T w (false,ts) #[.int .i64 0,.string ⟨#[]⟩,.int .i64 0,.slice none 0 0,.int .i64 t.line] t ax):=ap.out.moved o aN aQ;clear aN aQ ap;obtain ⟨pp,aV,TS,hb⟩:=X.out.rd;obtain ⟨m0,m1,m2,mf⟩:=z7 hb.blk;have an:pp≤1099511627776:=by have:=hb.lt;have:=hb.few;omega
  have HB:Hid (ZX r g pp aV TS (false,ts) ax):=hb;obtain ⟨d0,d1,d2,d3,d4,df⟩:=zd X.out.blkT;obtain ⟨n0,n1,n2,n3,n4,nf⟩:=zd X.out.blkN;have bz:¬ T=N:=X.out.hT.2;have br:¬ r=N:=by have:=X.out.hN;omega
  have bu:¬ r=T:=by have:=X.out.hT;omega
  clear hb
  by_cases c1:t.k=1
  ·have z:=A.out
   rw [if_pos c1] at z;have a3:Hid (_=some q):=z;have k1:(t.k:Int)=1:=by omega
   have V:Hid (Ym r g N T w (false,ts.tail) #[.int .i64 0,.string ⟨#[]⟩,.int .i64 0,.slice none 0 0,.int .i64 t.line] t (ax.setCell ⟨r,1,none⟩ (.int .i64 ((pp:Int)+1)))):=X.out.moved o ((zb.refl r ax).setCell 1 _) ⟨_,_,_,HB.out.step (by show (zu ts).k≠0;rw [←a4.out];omega)⟩
   have aw:∀W,Ym r g N T w (false,ts.tail) #[.int .i64 4,.string (za t.s),.int .i64 0,.slice none 0 0,.int .i64 t.line] t W→Calls Tryz.prog 134 #[.pointer (some ⟨r,0,none⟩),.string (za [40])] W fun e w'=>e=.returned (.bool (zU [40] (false,ts.tail)))∧zb r W w'∧zB r g (ZB [40] (false,ts.tail)) w':=fun W hW=>ym r g (false,ts.tail) [40] W hW.rd
   have aC:zU [40] (false,ts.tail)=zk (zu ts.tail) [40]:=yP _ _;clear z A R X HB
   by_cases hi:zU [40] (false,ts.tail)=true
   ·rw [hi,Z7 hi] at aw
    have Z:=a3.out;rw [if_pos (by rw [←aC];exact hi)] at Z
    obtain ⟨ql,ab,a9⟩:=Option.bind_eq_some_iff.1 Z;have L:Hid (q=(Ex.mk 5 t.s 0 ql.1 t.line,ql.2)):=(Option.some.inj a9).symm;have bb:Hid (ZN F [41] false (false,ts.tail.tail)=some ql):=ab;simp only at aw;clear hi aC Z ab a9 a3;go_wp2_with fail
    go_region
    all_goals
     go_wp2_with fail
     refine (aw _ (by first | exact ((V.out.set o D 0 (.int .i64 4)).set o D 1 (.string (za t.s))).drew | exact ((V.out.set o D 1 (.string (za t.s))).set o D 0 (.int .i64 4)).drew)).mono ?_
     rintro e Y ⟨rfl,ay,ar⟩
     have y:Hid (Ym r g N T w (false,ts.tail.tail) #[.int .i64 4,.string (za t.s),.int .i64 0,.slice none 0 0,.int .i64 t.line] t Y):=by
      first
      | exact (((V.out.set o D 0 (.int .i64 4)).set o D 1 (.string (za t.s))).drew).moved o ay ar
      | exact (((V.out.set o D 1 (.string (za t.s))).set o D 0 (.int .i64 4)).drew).moved o ay ar
     have cl:=a5.out F (Nat.le_refl _) [41] false _ ql Y bb.out y.out.rd;clear aw ay ar V m0 m1 m2 mf an d0 d1 d2 d3 d4 df n0 n1 n2 n3 n4 nf k1;go_wp2_with fail
     refine cl.mono ?_;clear cl;rintro e wE ⟨ah,v,rfl,U,ao⟩;obtain ⟨v0,v1,v2,rfl⟩:=zI.slice U;have O:Hid (Ym r g N T w ql.2 #[.int .i64 4,.string (za t.s),.int .i64 0,.slice none 0 0,.int .i64 t.line] t wE):=y.out.moved o ah ao;have bf:N<Y.heap.size:=(Array.getElem?_eq_some_iff.1 y.out.blkN).1;have am:Hid (Zr Y.heap.size ((wE.setCell ⟨N,0,none⟩ (.int .i64 5)).setCell ⟨N,3,none⟩ (.slice v0 v1 v2)) ql.1 (.slice v0 v1 v2)):=zI.kept U (by simp) fun k hk _=>(Below.heap_setCell _ _ _ _ (by simp;omega)).trans (Below.heap_setCell _ _ _ _ (by simp;omega))
     have a6:w.heap.size<Y.heap.size:=(Array.getElem?_eq_some_iff.1 y.out.res).1;clear ah U ao bb;obtain ⟨n0,n1,n2,n3,n4,nf⟩:=zd O.out.blkN;obtain ⟨x0,x1,x2,x3,x4,xf⟩:=zd O.out.res;obtain ⟨d0,d1,d2,d3,d4,df⟩:=zd O.out.blkT;have aJ:¬ w.heap.size=N:=by have:=O.out.hN;omega
     have E:=((O.out.set o D 0 (.int .i64 5)).set o D 3 (.slice v0 v1 v2));obtain ⟨z0,z1,z2,z3,z4⟩:=zi E.res (.int .i64 5) (.string (za t.s)) (.int .i64 0) (.slice v0 v1 v2) (.int .i64 t.line)
     have HP:Hid (zL r g w q (.returned (.agg #[.int .i64 5,.string (za t.s),.int .i64 0,.slice v0 v1 v2,.int .i64 t.line])) (set5 ((wE.setCell ⟨N,0,none⟩ (.int .i64 5)).setCell ⟨N,3,none⟩ (.slice v0 v1 v2)) w.heap.size (.int .i64 5) (.string (za t.s)) (.int .i64 0) (.slice v0 v1 v2) (.int .i64 t.line))):=by
      have:=E.leave (B:=Y.heap.size) o D 5 t.s 0 ql.1 t.line (.slice v0 v1 v2) (am.out) (by have:=O.out.hN;omega)
      rw [L.out];exact this
     clear E;go_wp2
     exact bodyPost_ret (v:=.agg #[.int .i64 5,.string (za t.s),.int .i64 0,.slice v0 v1 v2,.int .i64 t.line]) (by simp [results,Tryz.results135,go_sem,z0,z1,z2,z3,z4]) rfl HP.out
   ·have G:zU [40] (false,ts.tail)=false:=by simpa using hi
    rw [G,yy G] at aw;have Z:=a3.out;rw [if_neg (by rw [←aC];exact hi)] at Z
    have L:Hid (q=(Ex.mk 4 t.s 0 [] t.line,(false,ts.tail))):=(Option.some.inj Z).symm;clear hi G aC Z a3;go_wp2_with fail
    go_region
    all_goals
     go_wp2_with fail
     refine (aw _ (by first | exact ((V.out.set o D 0 (.int .i64 4)).set o D 1 (.string (za t.s))).drew | exact ((V.out.set o D 1 (.string (za t.s))).set o D 0 (.int .i64 4)).drew)).mono ?_
     rintro e Y ⟨rfl,ay,ar⟩
     have y:Hid (Ym r g N T w (false,ts.tail) #[.int .i64 4,.string (za t.s),.int .i64 0,.slice none 0 0,.int .i64 t.line] t Y):=by
      first
      | exact (((V.out.set o D 0 (.int .i64 4)).set o D 1 (.string (za t.s))).drew).moved o ay ar
      | exact (((V.out.set o D 1 (.string (za t.s))).set o D 0 (.int .i64 4)).drew).moved o ay ar
     clear aw ay ar V m0 m1 m2 mf an d0 d1 d2 d3 d4 df n0 n1 n2 n3 n4 nf k1;obtain ⟨n0,n1,n2,n3,n4,nf⟩:=zd y.out.blkN;obtain ⟨x0,x1,x2,x3,x4,xf⟩:=zd y.out.res;obtain ⟨d0,d1,d2,d3,d4,df⟩:=zd y.out.blkT;have aJ:¬ w.heap.size=N:=by have:=y.out.hN;omega
     have E:=y.out;obtain ⟨z0,z1,z2,z3,z4⟩:=zi E.res (.int .i64 4) (.string (za t.s)) (.int .i64 0) (.slice none 0 0) (.int .i64 t.line)
     have HP:Hid (zL r g w q (.returned (.agg #[.int .i64 4,.string (za t.s),.int .i64 0,.slice none 0 0,.int .i64 t.line])) (set5 Y w.heap.size (.int .i64 4) (.string (za t.s)) (.int .i64 0) (.slice none 0 0) (.int .i64 t.line))):=by
      have:=E.leave (B:=w.heap.size+1) o D 4 t.s 0 [] t.line (.slice none 0 0) (.inl ⟨rfl,rfl⟩) (by have:=y.out.hN;omega)
      rw [L.out];exact this
     clear E;go_wp2
     exact bodyPost_ret (v:=.agg #[.int .i64 4,.string (za t.s),.int .i64 0,.slice none 0 0,.int .i64 t.line]) (by simp [results,Tryz.results135,go_sem,z0,z1,z2,z3,z4]) rfl HP.out
  have k1:¬ (t.k:Int)=1:=by omega
  have bx:((t.k:Int)==1)=false:=by rw [beq_eq_false_iff_ne];exact k1
  have z:=A.out;rw [if_neg c1] at z;have L:Hid (q=(Ex.mk 0 [] 0 [] t.line,(true,ts))):=(Option.some.inj z).symm;have V:Hid (Ym r g N T w (true,ts) #[.int .i64 0,.string ⟨#[]⟩,.int .i64 0,.slice none 0 0,.int .i64 t.line] t (ax.setCell ⟨r,2,none⟩ (.bool true))):=X.out.moved o ((zb.refl r ax).setCell 2 _) ⟨_,_,_,HB.out.fail⟩;obtain ⟨bs,bt,bw,bq,bv,bA⟩:=zd X.out.res;clear z A R HB X;obtain ⟨n0,n1,n2,n3,n4,nf⟩:=zd V.out.blkN;obtain ⟨x0,x1,x2,x3,x4,xf⟩:=zd V.out.res;obtain ⟨d0,d1,d2,d3,d4,df⟩:=zd V.out.blkT;have aJ:¬ w.heap.size=N:=by have:=V.out.hN;omega
  have E:=V.out;obtain ⟨z0,z1,z2,z3,z4⟩:=zi E.res (.int .i64 0) (.string ⟨#[]⟩) (.int .i64 0) (.slice none 0 0) (.int .i64 t.line)
  have HP:Hid (zL r g w q (.returned (.agg #[.int .i64 0,.string ⟨#[]⟩,.int .i64 0,.slice none 0 0,.int .i64 t.line])) (set5 (ax.setCell ⟨r,2,none⟩ (.bool true)) w.heap.size (.int .i64 0) (.string ⟨#[]⟩) (.int .i64 0) (.slice none 0 0) (.int .i64 t.line))):=by
   have:=E.leave (B:=w.heap.size+1) o D 0 [] 0 [] t.line (.slice none 0 0) (.inl ⟨rfl,rfl⟩) (by have:=V.out.hN;omega)
   rw [L.out];exact this
  clear E;go_wp2
  exact bodyPost_ret (v:=.agg #[.int .i64 0,.string ⟨#[]⟩,.int .i64 0,.slice none 0 0,.int .i64 t.line]) (by simp [results,Tryz.results135,go_sem,z0,z1,z2,z3,z4]) rfl HP.out
 ·have L:Hid (q=(Ex.mk 0 [] 0 [] t.line,(true,ts))):=by
   have:=HQ.out
   rw [if_pos (by rfl)] at this
   exact (Option.some.inj this).symm
  simp only at m2;have aM:=fun ob=>zc m2 ob
  have ad:=fun ob ob'=>zc (aM ob) ob'
  have I:∀ob ob',((M.alloc ob).alloc ob').heap[w.heap.size]?=some zJ:=fun ob ob'=>by
   rw [Below.heap_alloc _ _ _ (by simp;omega),Below.heap_alloc _ _ _ (by omega)]
   exact ai.out
  have aF:=fun ob ob'=>(zd (I ob ob')).1
  have aB:=fun ob ob'=>(zd (I ob ob')).2.1
  have aD:=fun ob ob'=>(zd (I ob ob')).2.2.1
  have aE:=fun ob ob'=>(zd (I ob ob')).2.2.2.1
  have aG:=fun ob ob'=>(zd (I ob ob')).2.2.2.2.1
  have aA:=fun ob ob' j=>(zd (I ob ob')).2.2.2.2.2 j
  obtain ⟨z0,z1,z2,z3,z4⟩:=zi HA.out.res (.int .i64 0) (.string ⟨#[]⟩) (.int .i64 0) (.slice none 0 0) (.int .i64 t.line);clear HQ I ai;go_wp2
  refine bodyPost_ret (v:=.agg #[.int .i64 0,.string ⟨#[]⟩,.int .i64 0,.slice none 0 0,.int .i64 t.line]) (by simp [results,Tryz.results135,go_sem, *]) rfl ?_
  rw [L.out];exact HA.out.leave (B:=w.heap.size+1) o D 0 [] 0 [] t.line (.slice none 0 0) (.inl ⟨rfl,rfl⟩) (by omega)
end Go.Proofs.YtmbofhpmockmbaaGreatDoor
