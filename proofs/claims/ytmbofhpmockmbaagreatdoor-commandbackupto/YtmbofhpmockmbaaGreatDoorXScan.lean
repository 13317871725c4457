import Derived.Test.YtmbofhpmockmbaaGreatDoorMC11
import Derived.Sort.QuietIn
namespace Go.Proofs.YtmbofhpmockmbaaGreatDoor
open Go.RowKit Go.Shelf
set_option maxHeartbeats 16000000
set_option maxRecDepth 100000
attribute [local go_sem] Oper.semAt_some
theorem vo (l:List UInt8) (w:World) (hl:l.length≤281474976710656) :
  Calls Tryz.prog 25 #[.string (za l)] w fun e w'=>e=.returned (.string (za l))∧Below w.heap.size w w':=by
 go_enter Tryz.func25,Tryz.ntmps25
 go_wp2_with fail
 refine (Tryz.stringslite_Clone (za l) w hl).mono ?_;rintro e o ⟨rfl,h⟩;have x:Hid (Below w.heap.size w o):=h;clear h;go_wp2
 go_ret
 exact ⟨rfl,x.out⟩
theorem vp (l:List UInt8) (w:World) :
  CallsIn Fence.wide 6 Tryz.prog 114 #[.string (za l)] w fun e w'=>e=.returned (.func (.func 138) #[] #[.pointer (some ⟨w.heap.size,0,none⟩)])∧w'=w.alloc (.cells #[.string (za l)] 9):=by
 refine callsIn_of_wp Tryz.func114 rfl trivial ?_ rfl;simp only [Tryz.ntmps114,List.size_toArray,List.length_cons,List.length_nil,Nat.reduceAdd,Nat.reduceSub,Array.replicate_succ,Array.replicate_zero,List.push_toArray,List.append_toArray,List.nil_append,List.cons_append]
 gi_wp2
 go_ret
 exact ⟨rfl,rfl⟩
theorem xN {n:Nat} {P:Program} {g:Operand} {ps:Array Tmp} {assign body:Code} {Q:Exit→Act→World→Prop} {a:Act} {w:World} {gf:Nat} {lb:Array Value}
  (hg:a.eval g=.func (.func gf) #[] lb) (eg:∀args w,(callFunc gf args).run P w=.ok (.enter gf args) w)
  (h:∀r0:Loop,r0.state=.ready→r0.pending=none→r0.tmps=a.tmps→r0.params=ps→r0.assign=assign→r0.body=body →
   CallsIn Fence.wide (n-1) P gf (#[.func (.yield (w.heap.size+1)) #[] #[]]++lb) ((w.alloc (.deferred (some []))).alloc (.loop r0)) (rangePost Fence.wide n P (w.heap.size+1) Q { a with defers:=[{ target:=.collected w.heap.size,args:=#[] }]++a.defers })) :
  (Code.rangeFunc g ps assign body).wpIn Fence.wide n P Q a w :=
 wpIn_rangeFunc fun fn _=>⟨_,_,_,{ target:=.fn (.func gf) lb,args:=#[.func (.yield (w.heap.size+1)) #[] #[]] },_,gf,_,_,run_enterLoop_outer fn a.tmps ps assign body,
  by simp only [resolve,hg];simp [go_sem];rfl,fun _ _=>trivial,by simp [invoke,go_sem,eg];rfl,(fun hd=>by cases hd),h _ rfl rfl rfl rfl rfl rfl⟩
theorem v7:(Tryz.prog.info? 142).map (fun i=>(i.zero,i.size,i.bytes))=some (some (.agg #[.int .i64 0,.string ⟨#[]⟩,.int .i64 0,.int .i64 0,.int .i64 0]),5,48):=by kernel_rfl
structure ZB (N:Nat) (w:World) (l:List UInt8) (ob:Obj) (pre:List Tk) (line a:Nat) (W:World):Prop where
 all:∃r,Boxed W (N+3) 133 r∧W.ownsRow (N+7) 142 5 r pre.length (zO pre)
 r0:Boxed W N 133 (.slice none 0 0)
 r1:Boxed W (N+1) 3 (.int .i64 0)
 r2:Boxed W (N+2) 25 (.int .i64 0)
 sb:Boxed W (N+4) 9 (.string (za l))
 bel:Below N w W
 defd:W.heap[N+5]?=some (.deferred (some []))
 loop:W.heap[N+6]?=some ob
 unto:ZX l 1 0 pre line a
structure XW (N:Nat) (w:World) (l:List UInt8) (ob:Obj) (pre:List Tk) (line a:Nat) (W:World):Prop where
 r0:Boxed W N 133 (.slice none 0 0)
 r1:Boxed W (N+1) 3 (.int .i64 (zC l a))
 r2:Boxed W (N+2) 25 (.int .i64 (zs l a).e)
 bel:Below N w W
 defd:W.heap[N+5]?=some (.deferred (some []))
 loop:W.heap[N+6]?=some ob
 unto:ZX l 1 0 pre line a
theorem Ym {w w':World} {B e sz n:Nat} {v:Value} {xs:List Value} (h:w.ownsRow B e sz v n xs) (hk:∀(k:Nat) (o:Array Value),w.heap[k]?=some (Obj.cells o e (0,0))→w'.heap[k]?=w.heap[k]?):w'.ownsRow B e sz v n xs:=by
 obtain ⟨D,y⟩:=h;refine ⟨D,?_⟩;rcases y with y | ⟨g,x,o,A,E,z,r⟩
 ·exact .inl y
 ·exact .inr ⟨g,x,o,A,E,(hk g o z).trans z,r⟩
theorem vq {w:World} {B B' e sz n:Nat} {v:Value} {xs:List Value} (h:w.ownsRow B e sz v n xs) (hB:B'≤B):w.ownsRow B' e sz v n xs:=by
 obtain ⟨A,x⟩:=h;refine ⟨A,?_⟩;rcases x with x | ⟨g,o,y,z,D,r⟩
 ·exact .inl x
 ·exact .inr ⟨g,o,y,z,Nat.le_trans hB D,r⟩
theorem ZB.grow {N:Nat} {w:World} {l:List UInt8} {ob:Obj} {pre:List Tk} {line a:Nat} {W W':World} (h:ZB N w l ob pre line a W) (hB:Below W.heap.size W W'):ZB N w l ob pre line a W':=by
 have K:N+6<W.heap.size:=(Array.getElem?_eq_some_iff.1 h.loop).1;obtain ⟨⟨r,J,y⟩,A,D,x,G,E,H,z,I⟩:=h;have e:∀{k:Nat} {o:Obj},W.heap[k]?=some o→W'.heap[k]?=some o:=fun {k o} hk=>(hB.block k (Array.getElem?_eq_some_iff.1 hk).1).trans hk
 exact ⟨⟨r,e J,Ym y (fun k cur hk=>hB.block k (Array.getElem?_eq_some_iff.1 hk).1)⟩,e A,e D,e x,e G,E.trans (hB.mono (by omega)),e H,e z,I⟩
theorem ZB.put {N:Nat} {w:World} {l:List UInt8} {ob ob':Obj} {pre:List Tk} {line a:Nat} {W:World} (h:ZB N w l ob pre line a W) (hob:ob.isCells=false):ZB N w l ob' pre line a (W.putObj (N+6) ob'):=by
 have K:N+6<W.heap.size:=(Array.getElem?_eq_some_iff.1 h.loop).1;have z:=h.loop;obtain ⟨⟨r,J,y⟩,A,D,x,G,E,H,_,I⟩:=h;have o:∀{k:Nat},k≠N+6→(W.putObj (N+6) ob').heap[k]?=W.heap[k]?:=fun {k} hk=>World.putObj_heap_other hk
 refine ⟨⟨r,(o (by omega)).trans J,Ym y (fun k cur hk=>o (fun e=>?_))⟩,(o (by omega)).trans A,(o (by omega)).trans D,(o (by omega)).trans x,(o (by omega)).trans G,?_,(o (by omega)).trans H,World.putObj_heap_same K,I⟩
 ·rw [e,z] at hk;cases hk;cases hob
 ·exact E.trans ((Below.refl N W).grown (grownBy_putObj' W _ _) (by omega) (fun k e=>by cases e;omega))
theorem ZK {W:World} {b i:Nat} {v:Value} {cur:Array Value} {t:TypeId} {fr:Nat × Nat} (h:W.heap[b]?=some (.cells cur t fr)) (hv:cur[i]?=some v):W.setCell ⟨b,i,none⟩ v=W:=by
 have e:W.heap.modify b (fun | .cells c elem frozen=>.cells (if (none:Option Unit).isSome then c else c.setIfInBounds i v) elem frozen | o=>o)=W.heap:=by
  apply Array.ext_getElem?
  intro k
  by_cases hk:k=b
  ·subst hk
   rw [Array.getElem?_modify,h]
   have:cur.setIfInBounds i v=cur:=by
    apply Array.ext_getElem?
    intro j;rw [Array.getElem?_setIfInBounds]
    by_cases hj:i=j
    ·subst hj
     rw [hv]
     have:=(Array.getElem?_eq_some_iff.1 hv).1
     simp [this]
    ·simp [hj]
   simp [this]
  ·rw [Array.getElem?_modify,if_neg (by omega)]
 cases W
 unfold World.setCell
 simp only at e ⊢
 congr 1
theorem ZY {fn:Func} {p q s:Tmp} {t1 t2 t3:TypeId} (h:fn.results=#[.cell p t1,.cell q t2,.cell s t3]) (tmps:Array Value) (P:Program) (w:World) {a1 a2 a3:Addr} {v1 v2 v3:Value}
  (h1:tmps.getD p undef=.pointer (some a1)) (h2:tmps.getD q undef=.pointer (some a2)) (h3:tmps.getD s undef=.pointer (some a3))
  (l1:(loadVar t1 a1).run P w=.ok v1 w) (l2:(loadVar t2 a2).run P w=.ok v2 w) (l3:(loadVar t3 a3).run P w=.ok v3 w) :
  (results fn tmps).run P w=.ok (.tuple #[v1,v2,v3]) w:=by
 rw [Array.getD_eq_getD_getElem?] at h1 h2 h3;simp only [results,h]
 simp [Sem.run_bind,Result.andThen,h1,h2,h3,l1,l2,l3,asAddr]
theorem Xm {W:World} {b i:Nat} {cur:Array Value} {t:TypeId} (h:W.heap[b]?=some (.cells cur t (0,0))):W.frozen? ⟨b,i,none⟩=false:=by simp [World.frozen?,h]
theorem yr (W:World) (cs:List Value) (t:TypeId):∀j u,cs[j]?=some u→(W.alloc (.cells cs.toArray t)).cell? ((⟨W.heap.size,0,none⟩:Addr).add j)=some u:=fun j u h=>by
 rw [show (⟨W.heap.size,0,none⟩:Addr).add j=⟨W.heap.size,j,none⟩ by simp [Addr.add];try omega,cell_of_row _ _ _ _ _ _ (World.alloc_heap_new W _)]
 simpa using h
theorem Vw (l:List UInt8) (w:World) (hl:l.length≤4096) (ht:Zh w) :
  Calls Tryz.prog 94 #[.string (za l)] w fun e w'=>∃(r:Value),e=.returned (.tuple #[r,.int .i64 (Zd l (l.length+1) 1 0).2.1,.int .i64 (Zd l (l.length+1) 1 0).2.2]) ∧
   w'.ownsRow w.heap.size 142 5 r (Zd l (l.length+1) 1 0).1.length (zO (Zd l (l.length+1) 1 0).1)∧Below w.heap.size w w':=by
 obtain ⟨i0,hi,a0,aY,a4⟩:=info_parts v7;have HT:Hid (Zh w):=ht;have bb:(za l).size=l.length:=rfl;clear ht;refine (callsIn_wide (n:=7)).1 ?_;refine callsIn_of_wp_marks Tryz.func94 rfl trivial ?_ rfl;simp only [Tryz.ntmps94,List.size_toArray,List.length_cons,List.length_nil,Nat.reduceAdd,Nat.reduceSub,Array.replicate_succ,Array.replicate_zero,List.push_toArray,List.append_toArray,List.nil_append,List.cons_append]
 gi_wp2_with (refine ⟨trivial,?_⟩;gi_at_call 114;refine (vp _ _).mono ?_;rintro e w' ⟨rfl,rfl⟩)
 refine xN rfl (enters_of Tryz.func138 (by kernel_rfl) rfl) (fun r0 hst hpe htm hpa has hbo=>?_)
 obtain ⟨N,hN⟩:∃N,N=w.heap.size:=⟨_,rfl⟩;obtain ⟨W0,G⟩:∃W0,W0=((((w.alloc (.cells #[.slice none 0 0] 133)).alloc (.cells #[.int .i64 0] 3)).alloc (.cells #[.int .i64 0] 25)).alloc (.cells #[.slice none 0 0] 133)).alloc (.cells #[.string (za l)] 9):=⟨_,rfl⟩;have ao:W0.heap.size=N+5:=by rw [G,hN];simp
 have aV:Below N w W0:=by
  rw [G,hN];exact (((((Below.refl _ w).alloc (Nat.le_refl _) _).alloc (by simp) _).alloc (by simp;omega) _).alloc (by simp;omega) _).alloc (by simp;omega) _
 have b0:Boxed W0 N 133 (.slice none 0 0):=by rw [G,hN];exact ((((Boxed.new w _ _).alloc _).alloc _).alloc _).alloc _
 have b1:Boxed W0 (N+1) 3 (.int .i64 0):=by
  have h:=(((Boxed.new (w.alloc (.cells #[.slice none 0 0] 133)) 3 (.int .i64 0)).alloc (.cells #[.int .i64 0] 25)).alloc (.cells #[.slice none 0 0] 133)).alloc (.cells #[.string (za l)] 9);rw [World.size_alloc] at h;rw [G,hN];exact h
 have b2:Boxed W0 (N+2) 25 (.int .i64 0):=by
  have h:=((Boxed.new ((w.alloc (.cells #[.slice none 0 0] 133)).alloc (.cells #[.int .i64 0] 3)) 25 (.int .i64 0)).alloc (.cells #[.slice none 0 0] 133)).alloc (.cells #[.string (za l)] 9);rw [World.size_alloc,World.size_alloc] at h;rw [G,hN];exact h
 have b3:Boxed W0 (N+3) 133 (.slice none 0 0):=by
  have h:=(Boxed.new (((w.alloc (.cells #[.slice none 0 0] 133)).alloc (.cells #[.int .i64 0] 3)).alloc (.cells #[.int .i64 0] 25)) 133 (.slice none 0 0)).alloc (.cells #[.string (za l)] 9);rw [World.size_alloc,World.size_alloc,World.size_alloc] at h;rw [G,hN];exact h
 have b4:Boxed W0 (N+4) 9 (.string (za l)):=by
  have h:=Boxed.new ((((w.alloc (.cells #[.slice none 0 0] 133)).alloc (.cells #[.int .i64 0] 3)).alloc (.cells #[.int .i64 0] 25)).alloc (.cells #[.slice none 0 0] 133)) 9 (.string (za l));rw [World.size_alloc,World.size_alloc,World.size_alloc,World.size_alloc] at h;rw [G,hN];exact h
 rw [←G,ao];simp only [Nat.add_assoc,Nat.reduceAdd] at htm ⊢;rw [←hN] at htm ⊢;have HN:Hid (N=w.heap.size):=hN;clear hN G
 have au:((W0.alloc (.deferred (some []))).alloc (.loop r0)).heap[N+5]?=some (.deferred (some [])):=by
  rw [←ao];exact (Below.heap_alloc _ _ _ (by simp)).trans (World.alloc_heap_new W0 _)
 have av:((W0.alloc (.deferred (some []))).alloc (.loop r0)).heap[N+6]?=some (.loop r0):=by
  have:=World.alloc_heap_new (W0.alloc (.deferred (some []))) (.loop r0)
  rwa [World.size_alloc,ao] at this
 have aA:ZB N w l (.loop r0) [] 1 0 ((W0.alloc (.deferred (some []))).alloc (.loop r0)) :=
  ⟨⟨.slice none 0 0,(b3.alloc _).alloc _,World.ownsRow_nil _ _ _ _⟩,(b0.alloc _).alloc _,(b1.alloc _).alloc _,(b2.alloc _).alloc _,(b4.alloc _).alloc _,((aV.alloc (by omega) _).alloc (by simp;omega) _),au,av,rfl,rfl⟩
 obtain ⟨rE,aC⟩:∃rE:Loop,rE={ r0 with state:=.done,pending:=some .ret }:=⟨_,rfl⟩;have ax:Hid (rE={ r0 with state:=.done,pending:=some .ret }):=aC;clear aC;refine (Xl (N+6) (N+4) l hl (ZB N w l (.loop r0)) (XW N w l (.loop rE)) ?hJc ?hJg ?hE ?hY _ aA).mono ?_
 case hJc =>
  intro x line a W S Q;exact ⟨Q.sb.cell,HT.out.below Q.bel (by rw [HN.out];exact Nat.le_refl _),(yz x 1 0 Q.unto S (Nat.zero_le _) (by omega)).2.2⟩
 case hJg =>
  intro x line a W W' h hB;exact h.grow hB
 case hE =>
  intro x line a z o S Q he ha;have ae:ZB N w l (.loop r0) x line a (z.alloc o):=Q.grow ((Below.refl _ z).alloc (Nat.le_refl _) o);have A:=ae.loop;refine ⟨_,_,_,_,run_yield A (by rw [hpa];rfl),roundIn_of_wpIn trivial ?_⟩
  rw [has,hbo,htm,hpa];obtain ⟨T,hT⟩:∃T,T=tkT l line a:=⟨_,rfl⟩;rw [←hT];have al:Hid (T=tkT l line a):=hT;clear hT;obtain ⟨U,ap⟩:∃U,U=(zs l a).e:=⟨_,rfl⟩;rw [←ap] at he ⊢;have ba:Hid (U=(zs l a).e):=ap;clear ap;have bo:((U:Int) != 0)=true:=by rw [bne_iff_ne];omega
  unfold vk
  simp only [List.zip_toArray,List.zip_cons_cons,List.zip_nil_right]
  gi_wp2
  have Y:ZB N w l (.loop r0) x line a ((z.alloc o).alloc (.cells #[.int .i64 T.k,.string (za T.s),.int .i64 T.n,.int .i64 T.line,.int .i64 T.at0] 142)):=ae.grow ((Below.refl _ _).alloc (Nat.le_refl _) _);have aj:=Y.loop;refine ⟨_,run_beginRound (P:=Tryz.prog) aj hst,?_⟩;have D:=Y.put (ob':=.loop { r0 with state:=.busy }) rfl;have an:N+6<z.heap.size:=(Array.getElem?_eq_some_iff.1 Q.loop).1
  have L:(((z.alloc o).alloc (.cells #[.int .i64 T.k,.string (za T.s),.int .i64 T.n,.int .i64 T.line,.int .i64 T.at0] 142)).putObj (N+6) (.loop { r0 with state:=.busy })).heap[z.heap.size+1]?=some (.cells #[.int .i64 T.k,.string (za T.s),.int .i64 T.n,.int .i64 T.line,.int .i64 T.at0] 142 (0,0)):=by
   rw [World.putObj_heap_other (by omega)]
   have:=World.alloc_heap_new (z.alloc o) (.cells #[.int .i64 T.k,.string (za T.s),.int .i64 T.n,.int .i64 T.line,.int .i64 T.at0] 142)
   rwa [World.size_alloc] at this
  generalize ((z.alloc o).alloc (.cells #[.int .i64 T.k,.string (za T.s),.int .i64 T.n,.int .i64 T.line,.int .i64 T.at0] 142)).putObj (N+6) (.loop { r0 with state:=.busy })=Wb at D L ⊢;obtain ⟨M,hM⟩:∃M,M=z.heap.size:=⟨_,rfl⟩;rw [←hM] at L an ⊢;clear hM aj Y A ae Q;have ar:Hid (ZB N w l (.loop { r0 with state:=.busy }) x line a Wb):=D;have k0:=D.r0;have k1:=D.r1;have k2:=D.r2;have aO:=k0.cell;have aZ:=k0.frozen;have aG:=k1.cell;have aW:=k1.frozen;have aH:=k2.cell;have a8:=k2.frozen;clear D;have q4:Wb.cell? ⟨M+1,4,none⟩=some (.int .i64 T.at0):=by rw [cell_of_row _ _ _ _ _ _ L];rfl
  have s0:Wb.setCell ⟨N,0,none⟩ (.slice none 0 0)=Wb:=ZK k0 rfl;have aT:(Wb.setCell ⟨N+1,0,none⟩ (.int .i64 T.at0)).cell? ⟨N+2,0,none⟩=some (.int .i64 0):=(k2.kept (grownBy_setCell' Wb (N+1) _) (by simp)).cell
  have bm:(Wb.setCell ⟨N+1,0,none⟩ (.int .i64 T.at0)).frozen? ⟨N+2,0,none⟩=false:=(k2.kept (grownBy_setCell' Wb (N+1) _) (by simp)).frozen
  have HF:Hid (∀aQ,roundPost Tryz.prog (N+6) (fun e W'=>e=Ending.returned (Value.bool false)∧XW N w l (Obj.loop rE) x line a W') Exit.ret aQ ((Wb.setCell ⟨N+1,0,none⟩ (.int .i64 T.at0)).setCell ⟨N+2,0,none⟩ (.int .i64 U)).drew):=by
   intro aQ;have J:=ar.out
   have af:∀{k:Nat} {ob:Obj},k≠N+1→k≠N+2→Wb.heap[k]?=some ob→((Wb.setCell ⟨N+1,0,none⟩ (.int .i64 T.at0)).setCell ⟨N+2,0,none⟩ (.int .i64 U)).drew.heap[k]?=some ob:=fun {k ob} K H h3=>by
    show ((Wb.setCell ⟨N+1,0,none⟩ (.int .i64 T.at0)).setCell ⟨N+2,0,none⟩ (.int .i64 U)).heap[k]?=some ob
    rw [Below.heap_setCell _ _ _ _ (by simpa using H),Below.heap_setCell _ _ _ _ (by simpa using K),h3]
   have m1:Boxed ((Wb.setCell ⟨N+1,0,none⟩ (.int .i64 T.at0)).setCell ⟨N+2,0,none⟩ (.int .i64 U)).drew (N+1) 3 (.int .i64 T.at0):=by
    have h:=(k1.set (.int .i64 T.at0)).kept (grownBy_setCell' (Wb.setCell ⟨N+1,0,none⟩ (.int .i64 T.at0)) (N+2) (.int .i64 U)) (by simp)
    exact h
   have m2:Boxed ((Wb.setCell ⟨N+1,0,none⟩ (.int .i64 T.at0)).setCell ⟨N+2,0,none⟩ (.int .i64 U)).drew (N+2) 25 (.int .i64 U):=(k2.kept (grownBy_setCell' Wb (N+1) (.int .i64 T.at0)) (by simp)).set (.int .i64 U)
   have hB:Below N Wb ((Wb.setCell ⟨N+1,0,none⟩ (.int .i64 T.at0)).setCell ⟨N+2,0,none⟩ (.int .i64 U)).drew:=(((Below.refl N Wb).setCell (p:=⟨N+1,0,none⟩) (by simp) _).setCell (p:=⟨N+2,0,none⟩) (by simp) _).trans (⟨rfl,rfl,rfl,Nat.le_refl _,fun _ _=>rfl⟩:Below N ((Wb.setCell ⟨N+1,0,none⟩ (.int .i64 T.at0)).setCell ⟨N+2,0,none⟩ (.int .i64 U)) ((Wb.setCell ⟨N+1,0,none⟩ (.int .i64 T.at0)).setCell ⟨N+2,0,none⟩ (.int .i64 U)).drew)
   have m0:=af (k:=N) (by omega) (by omega) J.r0
   have md:=af (k:=N+5) (by omega) (by omega) J.defd
   have ml:=af (k:=N+6) (by omega) (by omega) J.loop
   generalize ((Wb.setCell ⟨N+1,0,none⟩ (.int .i64 T.at0)).setCell ⟨N+2,0,none⟩ (.int .i64 U)).drew=X at m0 m1 m2 md ml hB ⊢;have hX:=(Array.getElem?_eq_some_iff.1 ml).1;refine ⟨_,_,run_endRound (some .ret) ml,rfl,?_⟩
   have az:({ { r0 with state:=.busy } with state:=if (some Code.ret).isNone then .ready else .done,pending:=some .ret }:Loop)=rE:=by
    rw [ax.out];rfl
   rw [az];have e1:T.at0=zC l a:=by rw [al.out];rfl
   rw [e1] at m1;rw [ba.out] at m2;have put:∀{k:Nat} {ob:Obj},k≠N+6→X.heap[k]?=some ob→(X.putObj (N+6) (.loop rE)).heap[k]?=some ob:=fun {k ob} K H=>(World.putObj_heap_other K).trans H
   exact ⟨put (by omega) m0,put (by omega) m1,put (by omega) m2,(J.bel.trans hB).trans ((Below.refl N X).grown (grownBy_putObj' X _ _) (by omega) (fun k e=>by cases e;omega)),put (by omega) md,World.putObj_heap_same hX,J.unto⟩
  gi_wp2
  gi_region
  all_goals (gi_wp2;exact HF.out _)
 case hY =>
  intro x line a z o S Q he ha;have ae:ZB N w l (.loop r0) x line a (z.alloc o):=Q.grow ((Below.refl _ z).alloc (Nat.le_refl _) o);have bn:=yz x 1 0 Q.unto S (Nat.zero_le _) (by omega)
  have A:=ae.loop;refine ⟨_,_,_,_,run_yield A (by rw [hpa];rfl),roundIn_of_wpIn trivial ?_⟩
  rw [has,hbo,htm,hpa];obtain ⟨T,hT⟩:∃T,T=tkT l line a:=⟨_,rfl⟩;rw [←hT];have al:Hid (T=tkT l line a):=hT;clear hT
  unfold vk
  simp only [List.zip_toArray,List.zip_cons_cons,List.zip_nil_right]
  gi_wp2
  have Y:ZB N w l (.loop r0) x line a ((z.alloc o).alloc (.cells #[.int .i64 T.k,.string (za T.s),.int .i64 T.n,.int .i64 T.line,.int .i64 T.at0] 142)):=ae.grow ((Below.refl _ _).alloc (Nat.le_refl _) _);have aj:=Y.loop;refine ⟨_,run_beginRound (P:=Tryz.prog) aj hst,?_⟩;have D:=Y.put (ob':=.loop { r0 with state:=.busy }) rfl;have an:N+6<z.heap.size:=(Array.getElem?_eq_some_iff.1 Q.loop).1
  have ho:(((z.alloc o).alloc (.cells #[.int .i64 T.k,.string (za T.s),.int .i64 T.n,.int .i64 T.line,.int .i64 T.at0] 142)).putObj (N+6) (.loop { r0 with state:=.busy })).heap[z.heap.size]?=some o:=by
   rw [World.putObj_heap_other (by omega),Below.heap_alloc _ _ _ (by simp)]
   exact World.alloc_heap_new z _
  have L:(((z.alloc o).alloc (.cells #[.int .i64 T.k,.string (za T.s),.int .i64 T.n,.int .i64 T.line,.int .i64 T.at0] 142)).putObj (N+6) (.loop { r0 with state:=.busy })).heap[z.heap.size+1]?=some (.cells #[.int .i64 T.k,.string (za T.s),.int .i64 T.n,.int .i64 T.line,.int .i64 T.at0] 142 (0,0)):=by
   rw [World.putObj_heap_other (by omega)]
   have:=World.alloc_heap_new (z.alloc o) (.cells #[.int .i64 T.k,.string (za T.s),.int .i64 T.n,.int .i64 T.line,.int .i64 T.at0] 142)
   rwa [World.size_alloc] at this
  have V:∀k,k≠N+6→k<z.heap.size→∀ob,z.heap[k]?=some ob→(((z.alloc o).alloc (.cells #[.int .i64 T.k,.string (za T.s),.int .i64 T.n,.int .i64 T.line,.int .i64 T.at0] 142)).putObj (N+6) (.loop { r0 with state:=.busy })).heap[k]?=some ob:=fun k K H ob h3=>by
   rw [World.putObj_heap_other K,Below.heap_alloc _ _ _ (by simp;omega),Below.heap_alloc _ _ _ H,h3]
  have aq:(((z.alloc o).alloc (.cells #[.int .i64 T.k,.string (za T.s),.int .i64 T.n,.int .i64 T.line,.int .i64 T.at0] 142)).putObj (N+6) (.loop { r0 with state:=.busy })).heap.size=z.heap.size+2:=by
   simp
  generalize ((z.alloc o).alloc (.cells #[.int .i64 T.k,.string (za T.s),.int .i64 T.n,.int .i64 T.line,.int .i64 T.at0] 142)).putObj (N+6) (.loop { r0 with state:=.busy })=Wb at D ho L aq V ⊢
  have aR:T.s.length≤281474976710656:=by
   rw [al.out];have K:=VP (l.drop (a+ZF (l.drop a)));rw [List.length_drop] at K;have H:(tkT l line a).s=(Zn (l.drop (a+ZF (l.drop a)))).s:=rfl;rw [H];omega
  obtain ⟨ra,aM,aJ⟩:=Q.all;have aD:Boxed Wb (N+3) 133 ra:=V _ (by omega) (by omega) _ aM
  have am:∀g,some g=ra.ownBlock→g<z.heap.size:=fun g e=>(aJ.lt g e.symm).2
  obtain ⟨M,hM⟩:∃M,M=z.heap.size:=⟨_,rfl⟩;rw [←hM] at ho L aq an am ⊢;have a5:Hid (Boxed Wb (N+3) 133 ra):=aD;have a9:Hid (∀g,some g=ra.ownBlock→g<M):=am;have HM:Hid (M=z.heap.size):=hM;clear hM aj Y A ae V aD am aM aJ Q;have ar:Hid (ZB N w l (.loop { r0 with state:=.busy }) x line a Wb):=D;clear D;have q1:Wb.cell? ⟨M+1,1,none⟩=some (.string (za T.s)):=by rw [cell_of_row _ _ _ _ _ _ L];rfl
  have bk:x.length≤5000:=by omega
  gi_wp2_with (first
   | (refine ⟨trivial,?_⟩;gi_at_call 25;refine (callsIn_wide.2 (vo _ _ aR)).mono ?_;rintro e w3 ⟨rfl,ak⟩
      have aa:w3.heap[M+1]?=some (.cells #[.int .i64 T.k,.string (za T.s),.int .i64 T.n,.int .i64 T.line,.int .i64 T.at0] 142 (0,0)):=(ak.block _ (by omega)).trans L
      have q2:w3.setCell ⟨M+1,1,none⟩ (.string (za T.s))=w3:=ZK aa rfl;have q3:=Xm (i:=1) aa;have c0:w3.cell? ⟨M+1,0,none⟩=some (.int .i64 T.k):=by rw [cell_of_row _ _ _ _ _ _ aa];rfl
      have c1:w3.cell? ⟨M+1,1,none⟩=some (.string (za T.s)):=by rw [cell_of_row _ _ _ _ _ _ aa];rfl
      have c2:w3.cell? ⟨M+1,2,none⟩=some (.int .i64 T.n):=by rw [cell_of_row _ _ _ _ _ _ aa];rfl
      have c3:w3.cell? ⟨M+1,3,none⟩=some (.int .i64 T.line):=by rw [cell_of_row _ _ _ _ _ _ aa];rfl
      have c4:w3.cell? ⟨M+1,4,none⟩=some (.int .i64 T.at0):=by rw [cell_of_row _ _ _ _ _ _ aa];rfl
      have aN:Hid (ZB N w l (.loop { r0 with state:=.busy }) x line a w3):=ar.out.grow ak;obtain ⟨r,ag,R⟩:=aN.out.all;have bj:=ag.cell;have bq:M+2≤w3.heap.size:=by rw [←aq];exact ak.size
      have aS:w3.heap[M]?=some o:=(ak.block _ (by omega)).trans ho)
   | (gi_at_builtin;refine wpListIn_append_own _ rfl _ _ 133 rfl (N+7) 142 i0 _ 5 48 Tryz.underlying133 hi a0 aY a4 rfl (by decide) _ _ _ rfl (R.alloc _) ⟨w3.heap.size,0,none⟩ 1 1 [.int .i64 T.k,.string (za T.s),.int .i64 T.n,.int .i64 T.line,.int .i64 T.at0] rfl rfl (yr _ _ _) (by simp [Value.oneCell']) (by unfold maxLen;omega) (by omega) (by simp;omega) ?_;intro v' w4 ab ai _;obtain ⟨I,y,rfl⟩:=ownsRow_succ ab;have O:=(ag.alloc (.cells #[.int .i64 T.k,.string (za T.s),.int .i64 T.n,.int .i64 T.line,.int .i64 T.at0] 142)).kept ai (ag.not_row (by decide) R);have bf:=O.cell;have bp:=O.frozen))
  have aK:(w3.alloc (.cells #[.int .i64 T.k,.string (za T.s),.int .i64 T.n,.int .i64 T.line,.int .i64 T.at0] 142)).grownBy w4 r.ownBlock:=ai
  have aU:r=ra:=by
   have K:Boxed w3 (N+3) 133 ra:=(ak.block _ (by omega)).trans a5.out
   have H:=ag.cell.symm.trans K.cell;exact Option.some.inj H
  have af:∀k,k<w3.heap.size→some k≠r.ownBlock→w4.heap[k]?=w3.heap[k]?:=fun k hk hn=>(aK.block k (by simp;omega) hn).trans (Below.heap_alloc _ _ _ hk)
  have E:∀{k:Nat} {ob:Obj},k<N+7→k≠N+3→w3.heap[k]?=some ob→(w4.setCell ⟨N+3,0,none⟩ (.slice (some ⟨I,0,none⟩) (x.length+1) y)).heap[k]?=some ob:=fun {k ob} K H h3=>by
   rw [Below.heap_setCell _ _ _ _ (by simpa using H),af k (Array.getElem?_eq_some_iff.1 h3).1 (fun e=>by have:=(R.lt _ e.symm).1;omega),h3]
  have aI:ZB N w l (.loop { r0 with state:=.busy }) (x++[T]) (Zo l line a) (zC l a+(zs l a).sz) (w4.setCell ⟨N+3,0,none⟩ (.slice (some ⟨I,0,none⟩) (x.length+1) y)):=by
   have J:=aN.out;refine ⟨⟨_,O.set _,?_⟩,E (by omega) (by omega) J.r0,E (by omega) (by omega) J.r1,E (by omega) (by omega) J.r2,E (by omega) (by omega) J.sb,?_,E (by omega) (by omega) J.defd,E (by omega) (by omega) J.loop,?_⟩
   ·rw [List.length_append,Yk]
    exact ab.kept (grownBy_setCell' w4 (N+3) _) (.inr (O.not_row (by decide) ab).symm)
   ·exact J.bel.trans ((((Below.refl N w3).alloc (by omega) _).grown aK (by simp;omega) (fun j ej=>by have:=(R.lt j ej).1;omega)).setCell (p:=⟨N+3,0,none⟩) (by simp) _)
   ·rw [al.out];exact yW he J.unto
  have aX:=aI.loop
  have a2:(w4.setCell ⟨N+3,0,none⟩ (.slice (some ⟨I,0,none⟩) (x.length+1) y)).heap[M]?=some o:=by
   rw [Below.heap_setCell _ _ _ _ (by simp;omega),af M (by omega) (fun e=>by rw [aU] at e;have:=a9.out _ e;omega),aS]
  refine ⟨_,_,run_endRound none aX,rfl,?_⟩
  have az:({ { r0 with state:=.busy } with state:=if (none:Option Code).isNone then .ready else .done,pending:=none }:Loop)=r0:=by
   cases r0;simp_all
  rw [az];refine ⟨aI.put rfl,?_⟩;rw [World.putObj_heap_other (by omega)]
  exact a2
 rintro e W2 ⟨⟨u,rfl⟩,aB⟩;rcases aB with ⟨x,line,a,S,he,hE⟩ | ⟨x,line,a,S,he,hk,Q⟩
 ·have A:=hE.loop
  have a1:rE.state≠.busy:=by rw [ax.out];simp
  have aE:rE.pending=some .ret:=by rw [ax.out]
  refine ⟨rE.pending,_,run_endLoop (P:=Tryz.prog) A a1,?_⟩;rw [aE];have hX:=(Array.getElem?_eq_some_iff.1 A).1
  have Z:XW N w l (.loop { rE with state:=.exhausted }) x line a (W2.putObj (N+6) (.loop { rE with state:=.exhausted })):=by
   have put:∀{k:Nat} {ob:Obj},k≠N+6→W2.heap[k]?=some ob→(W2.putObj (N+6) (.loop { rE with state:=.exhausted })).heap[k]?=some ob:=fun {k ob} K H=>(World.putObj_heap_other K).trans H
   exact ⟨put (by omega) hE.r0,put (by omega) hE.r1,put (by omega) hE.r2,hE.bel.trans ((Below.refl N W2).grown (grownBy_putObj' W2 _ _) (by omega) (fun k e=>by cases e;omega)),put (by omega) hE.defd,World.putObj_heap_same hX,hE.unto⟩
  rw [aE] at Z
  dsimp only
  generalize W2.putObj (N+6) (.loop { rE with state:=.exhausted,pending:=some .ret })=W4 at Z ⊢;have ah:Hid (XW N w l (.loop { rE with state:=.exhausted,pending:=some .ret }) x line a W4):=Z;have aO:=Z.r0.cell;have aG:=Z.r1.cell;have aH:=Z.r2.cell;clear Z hE A aA av au
  gi_wp2
  have hK:=ah.out.defd;have aF:=(Array.getElem?_eq_some_iff.1 hK).1;refine ⟨by simp,.inl ⟨_,_,rfl,run_takeDeferred hK,?_⟩⟩
  have put:∀{k:Nat} {ob:Obj} (ob':Obj),k≠N+5→W4.heap[k]?=some ob→(W4.putObj (N+5) ob').heap[k]?=some ob:=fun {k ob} ob' K H=>(World.putObj_heap_other K).trans H
  have m0:Boxed (W4.putObj (N+5) (.deferred none)) N 133 (.slice none 0 0):=put _ (by omega) ah.out.r0
  have m1:Boxed (W4.putObj (N+5) (.deferred none)) (N+1) 3 (.int .i64 (zC l a)):=put _ (by omega) ah.out.r1
  have m2:Boxed (W4.putObj (N+5) (.deferred none)) (N+2) 25 (.int .i64 (zs l a).e):=put _ (by omega) ah.out.r2
  have c0:=m0.cell;have c1:=m1.cell;have c2:=m2.cell;refine ⟨_,ZY rfl _ _ _ rfl rfl rfl (by simp [go_sem,c0];rfl) (by simp [go_sem,c1];rfl) (by simp [go_sem,c2];rfl),.slice none 0 0,?_⟩
  rw [YW he x 1 0 (l.length+1) ah.out.unto S (Nat.zero_le _) (by omega),←HN.out]
  exact ⟨rfl,World.ownsRow_nil _ _ _ _,ah.out.bel.trans ((Below.refl N W4).grown (grownBy_putObj' W4 _ _) (by omega) (fun k e=>by cases e;omega))⟩
 ·have A:=Q.loop
  refine ⟨r0.pending,_,run_endLoop (P:=Tryz.prog) A (by rw [hst];simp),?_⟩
  have ad:=Q.put (ob':=.loop { r0 with state:=.exhausted }) rfl;generalize W2.putObj (N+6) (.loop { r0 with state:=.exhausted })=W4 at ad ⊢;rw [hpe];show Exit.inBlock 0 _ Exit.normal _ W4
  have aw:Hid (ZB N w l (Obj.loop { r0 with state:=.exhausted }) (x++[tkT l line a]) (Zo l line a) (zC l a+(zs l a).sz) W4):=ad;obtain ⟨r,ag,R⟩:=ad.all;have ay:=R;rw [List.length_append] at ay;obtain ⟨I,y,rfl⟩:=ownsRow_succ ay;clear ay;have k0:=ad.r0;have k1:=ad.r1;have k2:=ad.r2;have aO:=k0.cell;have aZ:=k0.frozen;have aG:=k1.cell;have aW:=k1.frozen;have aH:=k2.cell;have a8:=k2.frozen;have aT:=ag.cell;have j1:=k1.kept (grownBy_setCell' W4 N (.slice (some ⟨I,0,none⟩) (x.length+1) y)) (by simp)
  have j2:=k2.kept (grownBy_setCell' W4 N (.slice (some ⟨I,0,none⟩) (x.length+1) y)) (by simp)
  have bd:=j1.cell;have bi:=j1.frozen;have bg:=j2.cell;have bh:=j2.frozen;have bc:(W4.setCell ⟨N,0,none⟩ (.slice (some ⟨I,0,none⟩) (x.length+1) y)).setCell ⟨N+1,0,none⟩ (.int .i64 0)=W4.setCell ⟨N,0,none⟩ (.slice (some ⟨I,0,none⟩) (x.length+1) y):=ZK j1 rfl;have bl:(W4.setCell ⟨N,0,none⟩ (.slice (some ⟨I,0,none⟩) (x.length+1) y)).setCell ⟨N+2,0,none⟩ (.int .i64 0)=W4.setCell ⟨N,0,none⟩ (.slice (some ⟨I,0,none⟩) (x.length+1) y):=ZK j2 rfl;have be:=(k0.set (.slice (some ⟨I,0,none⟩) (x.length+1) y)).cell;clear ad Q A aA av au
  gi_wp2
  have a6:=aw.out.unto
  have hK:(W4.setCell ⟨N,0,none⟩ (.slice (some ⟨I,0,none⟩) (x.length+1) y)).heap[N+5]?=some (.deferred (some [])):=by
   rw [Below.heap_setCell _ _ _ _ (by simp)];exact aw.out.defd
  have aF:=(Array.getElem?_eq_some_iff.1 hK).1;have aL:=k0.set (.slice (some ⟨I,0,none⟩) (x.length+1) y);have O:=R.kept (grownBy_setCell' W4 N (.slice (some ⟨I,0,none⟩) (x.length+1) y)) (.inr (k0.not_row (by decide) R).symm)
  have aP:Below N w (W4.setCell ⟨N,0,none⟩ (.slice (some ⟨I,0,none⟩) (x.length+1) y)):=aw.out.bel.trans ((Below.refl N W4).setCell (p:=⟨N,0,none⟩) (Nat.le_refl _) _);generalize W4.setCell ⟨N,0,none⟩ (.slice (some ⟨I,0,none⟩) (x.length+1) y)=W5 at hK aF aL O aP j1 j2 ⊢;refine ⟨by simp,.inl ⟨_,_,rfl,run_takeDeferred hK,?_⟩⟩
  have put:∀{k:Nat} {ob:Obj} (ob':Obj),k≠N+5→W5.heap[k]?=some ob→(W5.putObj (N+5) ob').heap[k]?=some ob:=fun {k ob} ob' K H=>(World.putObj_heap_other K).trans H
  have m0:Boxed (W5.putObj (N+5) (.deferred none)) N 133 (.slice (some ⟨I,0,none⟩) (x.length+1) y):=put _ (by omega) aL
  have m1:Boxed (W5.putObj (N+5) (.deferred none)) (N+1) 3 (.int .i64 0):=put _ (by omega) j1
  have m2:Boxed (W5.putObj (N+5) (.deferred none)) (N+2) 25 (.int .i64 0):=put _ (by omega) j2
  have c0:=m0.cell;have c1:=m1.cell;have c2:=m2.cell;refine ⟨_,ZY rfl _ _ _ rfl rfl rfl (by simp [go_sem,c0];rfl) (by simp [go_sem,c1];rfl) (by simp [go_sem,c2];rfl),.slice (some ⟨I,0,none⟩) (x.length+1) y,?_⟩
  obtain ⟨a3,a',K,H,h3⟩:=yX a6;have a7:(zs l a').k=0:=by rw [←hk];exact (congrArg Tk.k h3).symm
  rw [YX H a7 x 1 0 (l.length+1) K S (Nat.zero_le _) (by omega),←HN.out,←h3,List.length_append]
  rw [List.length_append] at O;exact ⟨rfl,ownsRow_putObj (vq O (show N≤N+7 by omega)) _ hK rfl,aP.trans ((Below.refl N W5).grown (grownBy_putObj' W5 _ _) (by omega) (fun k e=>by cases e;omega))⟩
end Go.Proofs.YtmbofhpmockmbaaGreatDoor
