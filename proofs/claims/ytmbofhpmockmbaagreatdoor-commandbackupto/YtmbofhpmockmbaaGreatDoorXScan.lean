import Derived.Test.YtmbofhpmockmbaaGreatDoorMC11
import Derived.Sort.QuietIn
namespace Go.Proofs.YtmbofhpmockmbaaGreatDoor
open Go.RowKit Go.Shelf
set_option maxHeartbeats 16000000
set_option maxRecDepth 100000
attribute [local go_sem] Oper.semAt_some
theorem vo (l:List UInt8) (w:World) (hl:l.length≤281474976710656) :
  Calls Tryz.prog 25 #[.string (za l)] w fun e w'=>e=.returned (.string (za l))∧Below w.heap.size w w':=by
 go_enter Tryz.func25,Tryz.ntmps25
 go_wp2_with fail
 refine (Tryz.stringslite_Clone (za l) w hl).mono ?_;rintro e o ⟨rfl,h⟩;have x:Hid (Below w.heap.size w o):=h;clear h;go_wp2
 go_ret
 exact ⟨rfl,x.out⟩
theorem vp (l:List UInt8) (w:World) :
  CallsIn Fence.wide 6 Tryz.prog 114 #[.string (za l)] w fun e w'=>e=.returned (.func (.func 138) #[] #[.pointer (some ⟨w.heap.size,0,none⟩)])∧w'=w.alloc (.cells #[.string (za l)] 9):=by
 refine callsIn_of_wp Tryz.func114 rfl trivial ?_ rfl;simp only [Tryz.ntmps114,List.size_toArray,List.length_cons,List.length_nil,Nat.reduceAdd,Nat.reduceSub,Array.replicate_succ,Array.replicate_zero,List.push_toArray,List.append_toArray,List.nil_append,List.cons_append]
 gi_wp2
 go_ret
 exact ⟨rfl,rfl⟩
theorem xN {n:Nat} {P:Program} {g:Operand} {ps:Array Tmp} {assign body:Code} {Q:Exit→Act→World→Prop} {a:Act} {w:World} {gf:Nat} {lb:Array Value}
  (hg:a.eval g=.func (.func gf) #[] lb) (eg:∀args w,(callFunc gf args).run P w=.ok (.enter gf args) w)
  (h:∀r0:Loop,r0.state=.ready→r0.pending=none→r0.tmps=a.tmps→r0.params=ps→r0.assign=assign→r0.body=body →
   CallsIn Fence.wide (n-1) P gf (#[.func (.yield (w.heap.size+1)) #[] #[]]++lb) ((w.alloc (.deferred (some []))).alloc (.loop r0)) (rangePost Fence.wide n P (w.heap.size+1) Q { a with defers:=[{ target:=.collected w.heap.size,args:=#[] }]++a.defers })) :
  (Code.rangeFunc g ps assign body).wpIn Fence.wide n P Q a w :=
 wpIn_rangeFunc fun fn _=>⟨_,_,_,{ target:=.fn (.func gf) lb,args:=#[.func (.yield (w.heap.size+1)) #[] #[]] },_,gf,_,_,run_enterLoop_outer fn a.tmps ps assign body,
  by simp only [resolve,hg];simp [go_sem];rfl,fun _ _=>trivial,by simp [invoke,go_sem,eg];rfl,(fun hd=>by cases hd),h _ rfl rfl rfl rfl rfl rfl⟩
theorem v7:(Tryz.prog.info? 142).map (fun i=>(i.zero,i.size,i.bytes))=some (some (.agg #[.int .i64 0,.string ⟨#[]⟩,.int .i64 0,.int .i64 0,.int .i64 0]),5,48):=by kernel_rfl
structure ZB (N:Nat) (w:World) (l:List UInt8) (ob:Obj) (pre:List Tk) (line a:Nat) (W:World):Prop where
 all:∃r,Boxed W (N+3) 133 r∧W.ownsRow (N+7) 142 5 r pre.length (zO pre)
 r0:Boxed W N 133 (.slice none 0 0)
 r1:Boxed W (N+1) 3 (.int .i64 0)
 r2:Boxed W (N+2) 25 (.int .i64 0)
 sb:Boxed W (N+4) 9 (.string (za l))
 bel:Below N w W
 defd:W.heap[N+5]?=some (.deferred (some []))
 loop:W.heap[N+6]?=some ob
 unto:ZX l 1 0 pre line a
structure XW (N:Nat) (w:World) (l:List UInt8) (ob:Obj) (pre:List Tk) (line a:Nat) (W:World):Prop where
 r0:Boxed W N 133 (.slice none 0 0)
 r1:Boxed W (N+1) 3 (.int .i64 (zC l a))
 r2:Boxed W (N+2) 25 (.int .i64 (zs l a).e)
 bel:Below N w W
 defd:W.heap[N+5]?=some (.deferred (some []))
 loop:W.heap[N+6]?=some ob
 unto:ZX l 1 0 pre line a
theorem Ym {w w':World} {B e sz n:Nat} {v:Value} {xs:List Value} (h:w.ownsRow B e sz v n xs) (hk:∀(k:Nat) (o:Array Value),w.heap[k]?=some (Obj.cells o e (0,0))→w'.heap[k]?=w.heap[k]?):w'.ownsRow B e sz v n xs:=by
 obtain ⟨E,x⟩:=h;refine ⟨E,?_⟩;rcases x with x | ⟨g,y,o,A,D,z,r⟩
 ·exact .inl x
 ·exact .inr ⟨g,y,o,A,D,(hk g o z).trans z,r⟩
theorem vq {w:World} {B B' e sz n:Nat} {v:Value} {xs:List Value} (h:w.ownsRow B e sz v n xs) (hB:B'≤B):w.ownsRow B' e sz v n xs:=by
 obtain ⟨D,o⟩:=h;refine ⟨D,?_⟩;rcases o with o | ⟨g,x,y,z,A,r⟩
 ·exact .inl o
 ·exact .inr ⟨g,x,y,z,Nat.le_trans hB A,r⟩
theorem ZB.grow {N:Nat} {w:World} {l:List UInt8} {ob:Obj} {pre:List Tk} {line a:Nat} {W W':World} (h:ZB N w l ob pre line a W) (hB:Below W.heap.size W W'):ZB N w l ob pre line a W':=by
 have K:N+6<W.heap.size:=(Array.getElem?_eq_some_iff.1 h.loop).1;obtain ⟨⟨r,A,y⟩,x,J,G,z,H,I,E,D⟩:=h;have e:∀{k:Nat} {o:Obj},W.heap[k]?=some o→W'.heap[k]?=some o:=fun {k o} hk=>(hB.block k (Array.getElem?_eq_some_iff.1 hk).1).trans hk
 exact ⟨⟨r,e A,Ym y (fun k cur hk=>hB.block k (Array.getElem?_eq_some_iff.1 hk).1)⟩,e x,e J,e G,e z,H.trans (hB.mono (by omega)),e I,e E,D⟩
theorem ZB.put {N:Nat} {w:World} {l:List UInt8} {ob ob':Obj} {pre:List Tk} {line a:Nat} {W:World} (h:ZB N w l ob pre line a W) (hob:ob.isCells=false):ZB N w l ob' pre line a (W.putObj (N+6) ob'):=by
 have E:N+6<W.heap.size:=(Array.getElem?_eq_some_iff.1 h.loop).1;have G:=h.loop;obtain ⟨⟨r,A,y⟩,x,K,H,z,I,J,_,D⟩:=h;have o:∀{k:Nat},k≠N+6→(W.putObj (N+6) ob').heap[k]?=W.heap[k]?:=fun {k} hk=>World.putObj_heap_other hk
 refine ⟨⟨r,(o (by omega)).trans A,Ym y (fun k cur hk=>o (fun e=>?_))⟩,(o (by omega)).trans x,(o (by omega)).trans K,(o (by omega)).trans H,(o (by omega)).trans z,?_,(o (by omega)).trans J,World.putObj_heap_same E,D⟩
 ·rw [e,G] at hk;cases hk;cases hob
 ·exact I.trans ((Below.refl N W).grown (grownBy_putObj' W _ _) (by omega) (fun k e=>by cases e;omega))
theorem ZK {W:World} {b i:Nat} {v:Value} {cur:Array Value} {t:TypeId} {fr:Nat × Nat} (h:W.heap[b]?=some (.cells cur t fr)) (hv:cur[i]?=some v):W.setCell ⟨b,i,none⟩ v=W:=by
 have e:W.heap.modify b (fun | .cells c elem frozen=>.cells (if (none:Option Unit).isSome then c else c.setIfInBounds i v) elem frozen | o=>o)=W.heap:=by
  apply Array.ext_getElem?
  intro k
  by_cases hk:k=b
  ·subst hk
   rw [Array.getElem?_modify,h]
   have:cur.setIfInBounds i v=cur:=by
    apply Array.ext_getElem?
    intro j;rw [Array.getElem?_setIfInBounds]
    by_cases hj:i=j
    ·subst hj
     rw [hv]
     have:=(Array.getElem?_eq_some_iff.1 hv).1
     simp [this]
    ·simp [hj]
   simp [this]
  ·rw [Array.getElem?_modify,if_neg (by omega)]
 cases W
 unfold World.setCell
 simp only at e ⊢
 congr 1
theorem ZY {fn:Func} {p q s:Tmp} {t1 t2 t3:TypeId} (h:fn.results=#[.cell p t1,.cell q t2,.cell s t3]) (tmps:Array Value) (P:Program) (w:World) {a1 a2 a3:Addr} {v1 v2 v3:Value}
  (h1:tmps.getD p undef=.pointer (some a1)) (h2:tmps.getD q undef=.pointer (some a2)) (h3:tmps.getD s undef=.pointer (some a3))
  (l1:(loadVar t1 a1).run P w=.ok v1 w) (l2:(loadVar t2 a2).run P w=.ok v2 w) (l3:(loadVar t3 a3).run P w=.ok v3 w) :
  (results fn tmps).run P w=.ok (.tuple #[v1,v2,v3]) w:=by
 rw [Array.getD_eq_getD_getElem?] at h1 h2 h3;simp only [results,h]
 simp [Sem.run_bind,Result.andThen,h1,h2,h3,l1,l2,l3,asAddr]
theorem Xm {W:World} {b i:Nat} {cur:Array Value} {t:TypeId} (h:W.heap[b]?=some (.cells cur t (0,0))):W.frozen? ⟨b,i,none⟩=false:=by simp [World.frozen?,h]
theorem yr (W:World) (cs:List Value) (t:TypeId):∀j u,cs[j]?=some u→(W.alloc (.cells cs.toArray t)).cell? ((⟨W.heap.size,0,none⟩:Addr).add j)=some u:=fun j u h=>by
 rw [show (⟨W.heap.size,0,none⟩:Addr).add j=⟨W.heap.size,j,none⟩ by simp [Addr.add];try omega,cell_of_row _ _ _ _ _ _ (World.alloc_heap_new W _)]
 simpa using h
theorem Vw (l:List UInt8) (w:World) (hl:l.length≤4096) (ht:Zh w) :
  Calls Tryz.prog 94 #[.string (za l)] w fun e w'=>∃(r:Value),e=.returned (.tuple #[r,.int .i64 (Zd l (l.length+1) 1 0).2.1,.int .i64 (Zd l (l.length+1) 1 0).2.2]) ∧
   w'.ownsRow w.heap.size 142 5 r (Zd l (l.length+1) 1 0).1.length (zO (Zd l (l.length+1) 1 0).1)∧Below w.heap.size w w':=by
 obtain ⟨i0,hi,aT,a0,aZ⟩:=info_parts v7;have HT:Hid (Zh w):=ht;have bb:(za l).size=l.length:=rfl;clear ht;refine (callsIn_wide (n:=7)).1 ?_;refine callsIn_of_wp_marks Tryz.func94 rfl trivial ?_ rfl;simp only [Tryz.ntmps94,List.size_toArray,List.length_cons,List.length_nil,Nat.reduceAdd,Nat.reduceSub,Array.replicate_succ,Array.replicate_zero,List.push_toArray,List.append_toArray,List.nil_append,List.cons_append]
 gi_wp2_with (refine ⟨trivial,?_⟩;gi_at_call 114;refine (vp _ _).mono ?_;rintro e w' ⟨rfl,rfl⟩)
 refine xN rfl (enters_of Tryz.func138 (by kernel_rfl) rfl) (fun r0 hst hpe htm hpa has hbo=>?_)
 obtain ⟨N,hN⟩:∃N,N=w.heap.size:=⟨_,rfl⟩;obtain ⟨W0,H⟩:∃W0,W0=((((w.alloc (.cells #[.slice none 0 0] 133)).alloc (.cells #[.int .i64 0] 3)).alloc (.cells #[.int .i64 0] 25)).alloc (.cells #[.slice none 0 0] 133)).alloc (.cells #[.string (za l)] 9):=⟨_,rfl⟩;have aw:W0.heap.size=N+5:=by rw [H,hN];simp
 have a8:Below N w W0:=by
  rw [H,hN];exact (((((Below.refl _ w).alloc (Nat.le_refl _) _).alloc (by simp) _).alloc (by simp;omega) _).alloc (by simp;omega) _).alloc (by simp;omega) _
 have b0:Boxed W0 N 133 (.slice none 0 0):=by rw [H,hN];exact ((((Boxed.new w _ _).alloc _).alloc _).alloc _).alloc _
 have b1:Boxed W0 (N+1) 3 (.int .i64 0):=by
  have h:=(((Boxed.new (w.alloc (.cells #[.slice none 0 0] 133)) 3 (.int .i64 0)).alloc (.cells #[.int .i64 0] 25)).alloc (.cells #[.slice none 0 0] 133)).alloc (.cells #[.string (za l)] 9);rw [World.size_alloc] at h;rw [H,hN];exact h
 have b2:Boxed W0 (N+2) 25 (.int .i64 0):=by
  have h:=((Boxed.new ((w.alloc (.cells #[.slice none 0 0] 133)).alloc (.cells #[.int .i64 0] 3)) 25 (.int .i64 0)).alloc (.cells #[.slice none 0 0] 133)).alloc (.cells #[.string (za l)] 9);rw [World.size_alloc,World.size_alloc] at h;rw [H,hN];exact h
 have b3:Boxed W0 (N+3) 133 (.slice none 0 0):=by
  have h:=(Boxed.new (((w.alloc (.cells #[.slice none 0 0] 133)).alloc (.cells #[.int .i64 0] 3)).alloc (.cells #[.int .i64 0] 25)) 133 (.slice none 0 0)).alloc (.cells #[.string (za l)] 9);rw [World.size_alloc,World.size_alloc,World.size_alloc] at h;rw [H,hN];exact h
 have b4:Boxed W0 (N+4) 9 (.string (za l)):=by
  have h:=Boxed.new ((((w.alloc (.cells #[.slice none 0 0] 133)).alloc (.cells #[.int .i64 0] 3)).alloc (.cells #[.int .i64 0] 25)).alloc (.cells #[.slice none 0 0] 133)) 9 (.string (za l));rw [World.size_alloc,World.size_alloc,World.size_alloc,World.size_alloc] at h;rw [H,hN];exact h
 rw [←H,aw];simp only [Nat.add_assoc,Nat.reduceAdd] at htm ⊢;rw [←hN] at htm ⊢;have HN:Hid (N=w.heap.size):=hN;clear hN H
 have az:((W0.alloc (.deferred (some []))).alloc (.loop r0)).heap[N+5]?=some (.deferred (some [])):=by
  rw [←aw];exact (Below.heap_alloc _ _ _ (by simp)).trans (World.alloc_heap_new W0 _)
 have an:((W0.alloc (.deferred (some []))).alloc (.loop r0)).heap[N+6]?=some (.loop r0):=by
  have:=World.alloc_heap_new (W0.alloc (.deferred (some []))) (.loop r0)
  rwa [World.size_alloc,aw] at this
 have ax:ZB N w l (.loop r0) [] 1 0 ((W0.alloc (.deferred (some []))).alloc (.loop r0)) :=
  ⟨⟨.slice none 0 0,(b3.alloc _).alloc _,World.ownsRow_nil _ _ _ _⟩,(b0.alloc _).alloc _,(b1.alloc _).alloc _,(b2.alloc _).alloc _,(b4.alloc _).alloc _,((a8.alloc (by omega) _).alloc (by simp;omega) _),az,an,rfl,rfl⟩
 obtain ⟨rE,aE⟩:∃rE:Loop,rE={ r0 with state:=.done,pending:=some .ret }:=⟨_,rfl⟩;have am:Hid (rE={ r0 with state:=.done,pending:=some .ret }):=aE;clear aE;refine (Xl (N+6) (N+4) l hl (ZB N w l (.loop r0)) (XW N w l (.loop rE)) ?hJc ?hJg ?hE ?hY _ ax).mono ?_
 case hJc =>
  intro x line a W S R;exact ⟨R.sb.cell,HT.out.below R.bel (by rw [HN.out];exact Nat.le_refl _),(yz x 1 0 R.unto S (Nat.zero_le _) (by omega)).2.2⟩
 case hJg =>
  intro x line a W W' h hB;exact h.grow hB
 case hE =>
  intro x line a z o S R he ha;have ad:ZB N w l (.loop r0) x line a (z.alloc o):=R.grow ((Below.refl _ z).alloc (Nat.le_refl _) o);have A:=ad.loop;refine ⟨_,_,_,_,run_yield A (by rw [hpa];rfl),roundIn_of_wpIn trivial ?_⟩
  rw [has,hbo,htm,hpa];obtain ⟨T,hT⟩:∃T,T=tkT l line a:=⟨_,rfl⟩;rw [←hT];have al:Hid (T=tkT l line a):=hT;clear hT;obtain ⟨U,ao⟩:∃U,U=(zs l a).e:=⟨_,rfl⟩;rw [←ao] at he ⊢;have a1:Hid (U=(zs l a).e):=ao;clear ao;have bc:((U:Int) != 0)=true:=by rw [bne_iff_ne];omega
  unfold vk
  simp only [List.zip_toArray,List.zip_cons_cons,List.zip_nil_right]
  gi_wp2
  have Y:ZB N w l (.loop r0) x line a ((z.alloc o).alloc (.cells #[.int .i64 T.k,.string (za T.s),.int .i64 T.n,.int .i64 T.line,.int .i64 T.at0] 142)):=ad.grow ((Below.refl _ _).alloc (Nat.le_refl _) _);have ai:=Y.loop;refine ⟨_,run_beginRound (P:=Tryz.prog) ai hst,?_⟩;have D:=Y.put (ob':=.loop { r0 with state:=.busy }) rfl;have aq:N+6<z.heap.size:=(Array.getElem?_eq_some_iff.1 R.loop).1
  have Q:(((z.alloc o).alloc (.cells #[.int .i64 T.k,.string (za T.s),.int .i64 T.n,.int .i64 T.line,.int .i64 T.at0] 142)).putObj (N+6) (.loop { r0 with state:=.busy })).heap[z.heap.size+1]?=some (.cells #[.int .i64 T.k,.string (za T.s),.int .i64 T.n,.int .i64 T.line,.int .i64 T.at0] 142 (0,0)):=by
   rw [World.putObj_heap_other (by omega)]
   have:=World.alloc_heap_new (z.alloc o) (.cells #[.int .i64 T.k,.string (za T.s),.int .i64 T.n,.int .i64 T.line,.int .i64 T.at0] 142)
   rwa [World.size_alloc] at this
  generalize ((z.alloc o).alloc (.cells #[.int .i64 T.k,.string (za T.s),.int .i64 T.n,.int .i64 T.line,.int .i64 T.at0] 142)).putObj (N+6) (.loop { r0 with state:=.busy })=Wb at D Q ⊢;obtain ⟨M,hM⟩:∃M,M=z.heap.size:=⟨_,rfl⟩;rw [←hM] at Q aq ⊢;clear hM ai Y A ad R;have ap:Hid (ZB N w l (.loop { r0 with state:=.busy }) x line a Wb):=D;have k0:=D.r0;have k1:=D.r1;have k2:=D.r2;have aB:=k0.cell;have aU:=k0.frozen;have aQ:=k1.cell;have aS:=k1.frozen;have aN:=k2.cell;have a6:=k2.frozen;clear D;have q4:Wb.cell? ⟨M+1,4,none⟩=some (.int .i64 T.at0):=by rw [cell_of_row _ _ _ _ _ _ Q];rfl
  have s0:Wb.setCell ⟨N,0,none⟩ (.slice none 0 0)=Wb:=ZK k0 rfl;have a7:(Wb.setCell ⟨N+1,0,none⟩ (.int .i64 T.at0)).cell? ⟨N+2,0,none⟩=some (.int .i64 0):=(k2.kept (grownBy_setCell' Wb (N+1) _) (by simp)).cell
  have bg:(Wb.setCell ⟨N+1,0,none⟩ (.int .i64 T.at0)).frozen? ⟨N+2,0,none⟩=false:=(k2.kept (grownBy_setCell' Wb (N+1) _) (by simp)).frozen
  have HF:Hid (∀aF,roundPost Tryz.prog (N+6) (fun e W'=>e=Ending.returned (Value.bool false)∧XW N w l (Obj.loop rE) x line a W') Exit.ret aF ((Wb.setCell ⟨N+1,0,none⟩ (.int .i64 T.at0)).setCell ⟨N+2,0,none⟩ (.int .i64 U)).drew):=by
   intro aF;have J:=ap.out
   have ag:∀{k:Nat} {ob:Obj},k≠N+1→k≠N+2→Wb.heap[k]?=some ob→((Wb.setCell ⟨N+1,0,none⟩ (.int .i64 T.at0)).setCell ⟨N+2,0,none⟩ (.int .i64 U)).drew.heap[k]?=some ob:=fun {k ob} I G h3=>by
    show ((Wb.setCell ⟨N+1,0,none⟩ (.int .i64 T.at0)).setCell ⟨N+2,0,none⟩ (.int .i64 U)).heap[k]?=some ob
    rw [Below.heap_setCell _ _ _ _ (by simpa using G),Below.heap_setCell _ _ _ _ (by simpa using I),h3]
   have m1:Boxed ((Wb.setCell ⟨N+1,0,none⟩ (.int .i64 T.at0)).setCell ⟨N+2,0,none⟩ (.int .i64 U)).drew (N+1) 3 (.int .i64 T.at0):=by
    have h:=(k1.set (.int .i64 T.at0)).kept (grownBy_setCell' (Wb.setCell ⟨N+1,0,none⟩ (.int .i64 T.at0)) (N+2) (.int .i64 U)) (by simp)
    exact h
   have m2:Boxed ((Wb.setCell ⟨N+1,0,none⟩ (.int .i64 T.at0)).setCell ⟨N+2,0,none⟩ (.int .i64 U)).drew (N+2) 25 (.int .i64 U):=(k2.kept (grownBy_setCell' Wb (N+1) (.int .i64 T.at0)) (by simp)).set (.int .i64 U)
   have hB:Below N Wb ((Wb.setCell ⟨N+1,0,none⟩ (.int .i64 T.at0)).setCell ⟨N+2,0,none⟩ (.int .i64 U)).drew:=(((Below.refl N Wb).setCell (p:=⟨N+1,0,none⟩) (by simp) _).setCell (p:=⟨N+2,0,none⟩) (by simp) _).trans (⟨rfl,rfl,rfl,Nat.le_refl _,fun _ _=>rfl⟩:Below N ((Wb.setCell ⟨N+1,0,none⟩ (.int .i64 T.at0)).setCell ⟨N+2,0,none⟩ (.int .i64 U)) ((Wb.setCell ⟨N+1,0,none⟩ (.int .i64 T.at0)).setCell ⟨N+2,0,none⟩ (.int .i64 U)).drew)
   have m0:=ag (k:=N) (by omega) (by omega) J.r0
   have md:=ag (k:=N+5) (by omega) (by omega) J.defd
   have ml:=ag (k:=N+6) (by omega) (by omega) J.loop
   generalize ((Wb.setCell ⟨N+1,0,none⟩ (.int .i64 T.at0)).setCell ⟨N+2,0,none⟩ (.int .i64 U)).drew=X at m0 m1 m2 md ml hB ⊢;have hX:=(Array.getElem?_eq_some_iff.1 ml).1;refine ⟨_,_,run_endRound (some .ret) ml,rfl,?_⟩
   have av:({ { r0 with state:=.busy } with state:=if (some Code.ret).isNone then .ready else .done,pending:=some .ret }:Loop)=rE:=by
    rw [am.out];rfl
   rw [av];have e1:T.at0=zC l a:=by rw [al.out];rfl
   rw [e1] at m1;rw [a1.out] at m2;have put:∀{k:Nat} {ob:Obj},k≠N+6→X.heap[k]?=some ob→(X.putObj (N+6) (.loop rE)).heap[k]?=some ob:=fun {k ob} I G=>(World.putObj_heap_other I).trans G
   exact ⟨put (by omega) m0,put (by omega) m1,put (by omega) m2,(J.bel.trans hB).trans ((Below.refl N X).grown (grownBy_putObj' X _ _) (by omega) (fun k e=>by cases e;omega)),put (by omega) md,World.putObj_heap_same hX,J.unto⟩
  gi_wp2
  gi_region
  all_goals (gi_wp2;exact HF.out _)
 case hY =>
  intro x line a z o S R he ha;have ad:ZB N w l (.loop r0) x line a (z.alloc o):=R.grow ((Below.refl _ z).alloc (Nat.le_refl _) o);have bh:=yz x 1 0 R.unto S (Nat.zero_le _) (by omega)
  have A:=ad.loop;refine ⟨_,_,_,_,run_yield A (by rw [hpa];rfl),roundIn_of_wpIn trivial ?_⟩
  rw [has,hbo,htm,hpa];obtain ⟨T,hT⟩:∃T,T=tkT l line a:=⟨_,rfl⟩;rw [←hT];have al:Hid (T=tkT l line a):=hT;clear hT
  unfold vk
  simp only [List.zip_toArray,List.zip_cons_cons,List.zip_nil_right]
  gi_wp2
  have Y:ZB N w l (.loop r0) x line a ((z.alloc o).alloc (.cells #[.int .i64 T.k,.string (za T.s),.int .i64 T.n,.int .i64 T.line,.int .i64 T.at0] 142)):=ad.grow ((Below.refl _ _).alloc (Nat.le_refl _) _);have ai:=Y.loop;refine ⟨_,run_beginRound (P:=Tryz.prog) ai hst,?_⟩;have D:=Y.put (ob':=.loop { r0 with state:=.busy }) rfl;have aq:N+6<z.heap.size:=(Array.getElem?_eq_some_iff.1 R.loop).1
  have ho:(((z.alloc o).alloc (.cells #[.int .i64 T.k,.string (za T.s),.int .i64 T.n,.int .i64 T.line,.int .i64 T.at0] 142)).putObj (N+6) (.loop { r0 with state:=.busy })).heap[z.heap.size]?=some o:=by
   rw [World.putObj_heap_other (by omega),Below.heap_alloc _ _ _ (by simp)]
   exact World.alloc_heap_new z _
  have Q:(((z.alloc o).alloc (.cells #[.int .i64 T.k,.string (za T.s),.int .i64 T.n,.int .i64 T.line,.int .i64 T.at0] 142)).putObj (N+6) (.loop { r0 with state:=.busy })).heap[z.heap.size+1]?=some (.cells #[.int .i64 T.k,.string (za T.s),.int .i64 T.n,.int .i64 T.line,.int .i64 T.at0] 142 (0,0)):=by
   rw [World.putObj_heap_other (by omega)]
   have:=World.alloc_heap_new (z.alloc o) (.cells #[.int .i64 T.k,.string (za T.s),.int .i64 T.n,.int .i64 T.line,.int .i64 T.at0] 142)
   rwa [World.size_alloc] at this
  have ab:∀k,k≠N+6→k<z.heap.size→∀ob,z.heap[k]?=some ob→(((z.alloc o).alloc (.cells #[.int .i64 T.k,.string (za T.s),.int .i64 T.n,.int .i64 T.line,.int .i64 T.at0] 142)).putObj (N+6) (.loop { r0 with state:=.busy })).heap[k]?=some ob:=fun k I G ob h3=>by
   rw [World.putObj_heap_other I,Below.heap_alloc _ _ _ (by simp;omega),Below.heap_alloc _ _ _ G,h3]
  have au:(((z.alloc o).alloc (.cells #[.int .i64 T.k,.string (za T.s),.int .i64 T.n,.int .i64 T.line,.int .i64 T.at0] 142)).putObj (N+6) (.loop { r0 with state:=.busy })).heap.size=z.heap.size+2:=by
   simp
  generalize ((z.alloc o).alloc (.cells #[.int .i64 T.k,.string (za T.s),.int .i64 T.n,.int .i64 T.line,.int .i64 T.at0] 142)).putObj (N+6) (.loop { r0 with state:=.busy })=Wb at D ho Q au ab ⊢
  have aR:T.s.length≤281474976710656:=by
   rw [al.out];have I:=VP (l.drop (a+ZF (l.drop a)));rw [List.length_drop] at I;have G:(tkT l line a).s=(Zn (l.drop (a+ZF (l.drop a)))).s:=rfl;rw [G];omega
  obtain ⟨ra,aD,aP⟩:=R.all;have aJ:Boxed Wb (N+3) 133 ra:=ab _ (by omega) (by omega) _ aD
  have ay:∀g,some g=ra.ownBlock→g<z.heap.size:=fun g e=>(aP.lt g e.symm).2
  obtain ⟨M,hM⟩:∃M,M=z.heap.size:=⟨_,rfl⟩;rw [←hM] at ho Q au aq ay ⊢;have aX:Hid (Boxed Wb (N+3) 133 ra):=aJ;have a2:Hid (∀g,some g=ra.ownBlock→g<M):=ay;have HM:Hid (M=z.heap.size):=hM;clear hM ai Y A ad ab aJ ay aD aP R;have ap:Hid (ZB N w l (.loop { r0 with state:=.busy }) x line a Wb):=D;clear D;have q1:Wb.cell? ⟨M+1,1,none⟩=some (.string (za T.s)):=by rw [cell_of_row _ _ _ _ _ _ Q];rfl
  have bf:x.length≤5000:=by omega
  gi_wp2_with (first
   | (refine ⟨trivial,?_⟩;gi_at_call 25;refine (callsIn_wide.2 (vo _ _ aR)).mono ?_;rintro e w3 ⟨rfl,aj⟩
      have Z:w3.heap[M+1]?=some (.cells #[.int .i64 T.k,.string (za T.s),.int .i64 T.n,.int .i64 T.line,.int .i64 T.at0] 142 (0,0)):=(aj.block _ (by omega)).trans Q
      have q2:w3.setCell ⟨M+1,1,none⟩ (.string (za T.s))=w3:=ZK Z rfl;have q3:=Xm (i:=1) Z;have c0:w3.cell? ⟨M+1,0,none⟩=some (.int .i64 T.k):=by rw [cell_of_row _ _ _ _ _ _ Z];rfl
      have c1:w3.cell? ⟨M+1,1,none⟩=some (.string (za T.s)):=by rw [cell_of_row _ _ _ _ _ _ Z];rfl
      have c2:w3.cell? ⟨M+1,2,none⟩=some (.int .i64 T.n):=by rw [cell_of_row _ _ _ _ _ _ Z];rfl
      have c3:w3.cell? ⟨M+1,3,none⟩=some (.int .i64 T.line):=by rw [cell_of_row _ _ _ _ _ _ Z];rfl
      have c4:w3.cell? ⟨M+1,4,none⟩=some (.int .i64 T.at0):=by rw [cell_of_row _ _ _ _ _ _ Z];rfl
      have aC:Hid (ZB N w l (.loop { r0 with state:=.busy }) x line a w3):=ap.out.grow aj;obtain ⟨r,af,O⟩:=aC.out.all;have bn:=af.cell;have bm:M+2≤w3.heap.size:=by rw [←au];exact aj.size
      have ba:w3.heap[M]?=some o:=(aj.block _ (by omega)).trans ho)
   | (gi_at_builtin;refine wpListIn_append_own _ rfl _ _ 133 rfl (N+7) 142 i0 _ 5 48 Tryz.underlying133 hi aT a0 aZ rfl (by decide) _ _ _ rfl (O.alloc _) ⟨w3.heap.size,0,none⟩ 1 1 [.int .i64 T.k,.string (za T.s),.int .i64 T.n,.int .i64 T.line,.int .i64 T.at0] rfl rfl (yr _ _ _) (by simp [Value.oneCell']) (by unfold maxLen;omega) (by omega) (by simp;omega) ?_;intro v' w4 aa ak _;obtain ⟨K,y,rfl⟩:=ownsRow_succ aa;have L:=(af.alloc (.cells #[.int .i64 T.k,.string (za T.s),.int .i64 T.n,.int .i64 T.line,.int .i64 T.at0] 142)).kept ak (af.not_row (by decide) O);have bd:=L.cell;have bp:=L.frozen))
  have aL:(w3.alloc (.cells #[.int .i64 T.k,.string (za T.s),.int .i64 T.n,.int .i64 T.line,.int .i64 T.at0] 142)).grownBy w4 r.ownBlock:=ak
  have aV:r=ra:=by
   have I:Boxed w3 (N+3) 133 ra:=(aj.block _ (by omega)).trans aX.out
   have G:=af.cell.symm.trans I.cell;exact Option.some.inj G
  have ag:∀k,k<w3.heap.size→some k≠r.ownBlock→w4.heap[k]?=w3.heap[k]?:=fun k hk hn=>(aL.block k (by simp;omega) hn).trans (Below.heap_alloc _ _ _ hk)
  have E:∀{k:Nat} {ob:Obj},k<N+7→k≠N+3→w3.heap[k]?=some ob→(w4.setCell ⟨N+3,0,none⟩ (.slice (some ⟨K,0,none⟩) (x.length+1) y)).heap[k]?=some ob:=fun {k ob} I G h3=>by
   rw [Below.heap_setCell _ _ _ _ (by simpa using G),ag k (Array.getElem?_eq_some_iff.1 h3).1 (fun e=>by have:=(O.lt _ e.symm).1;omega),h3]
  have aM:ZB N w l (.loop { r0 with state:=.busy }) (x++[T]) (Zo l line a) (zC l a+(zs l a).sz) (w4.setCell ⟨N+3,0,none⟩ (.slice (some ⟨K,0,none⟩) (x.length+1) y)):=by
   have J:=aC.out;refine ⟨⟨_,L.set _,?_⟩,E (by omega) (by omega) J.r0,E (by omega) (by omega) J.r1,E (by omega) (by omega) J.r2,E (by omega) (by omega) J.sb,?_,E (by omega) (by omega) J.defd,E (by omega) (by omega) J.loop,?_⟩
   ·rw [List.length_append,Yk]
    exact aa.kept (grownBy_setCell' w4 (N+3) _) (.inr (L.not_row (by decide) aa).symm)
   ·exact J.bel.trans ((((Below.refl N w3).alloc (by omega) _).grown aL (by simp;omega) (fun j ej=>by have:=(O.lt j ej).1;omega)).setCell (p:=⟨N+3,0,none⟩) (by simp) _)
   ·rw [al.out];exact yW he J.unto
  have a4:=aM.loop
  have a9:(w4.setCell ⟨N+3,0,none⟩ (.slice (some ⟨K,0,none⟩) (x.length+1) y)).heap[M]?=some o:=by
   rw [Below.heap_setCell _ _ _ _ (by simp;omega),ag M (by omega) (fun e=>by rw [aV] at e;have:=a2.out _ e;omega),ba]
  refine ⟨_,_,run_endRound none a4,rfl,?_⟩
  have av:({ { r0 with state:=.busy } with state:=if (none:Option Code).isNone then .ready else .done,pending:=none }:Loop)=r0:=by
   cases r0;simp_all
  rw [av];refine ⟨aM.put rfl,?_⟩;rw [World.putObj_heap_other (by omega)]
  exact a9
 rintro e W2 ⟨⟨u,rfl⟩,aK⟩;rcases aK with ⟨x,line,a,S,he,hE⟩ | ⟨x,line,a,S,he,hk,R⟩
 ·have A:=hE.loop
  have a3:rE.state≠.busy:=by rw [am.out];simp
  have aG:rE.pending=some .ret:=by rw [am.out]
  refine ⟨rE.pending,_,run_endLoop (P:=Tryz.prog) A a3,?_⟩;rw [aG];have hX:=(Array.getElem?_eq_some_iff.1 A).1
  have ae:XW N w l (.loop { rE with state:=.exhausted }) x line a (W2.putObj (N+6) (.loop { rE with state:=.exhausted })):=by
   have put:∀{k:Nat} {ob:Obj},k≠N+6→W2.heap[k]?=some ob→(W2.putObj (N+6) (.loop { rE with state:=.exhausted })).heap[k]?=some ob:=fun {k ob} I G=>(World.putObj_heap_other I).trans G
   exact ⟨put (by omega) hE.r0,put (by omega) hE.r1,put (by omega) hE.r2,hE.bel.trans ((Below.refl N W2).grown (grownBy_putObj' W2 _ _) (by omega) (fun k e=>by cases e;omega)),put (by omega) hE.defd,World.putObj_heap_same hX,hE.unto⟩
  rw [aG] at ae
  dsimp only
  generalize W2.putObj (N+6) (.loop { rE with state:=.exhausted,pending:=some .ret })=W4 at ae ⊢;have ah:Hid (XW N w l (.loop { rE with state:=.exhausted,pending:=some .ret }) x line a W4):=ae;have aB:=ae.r0.cell;have aQ:=ae.r1.cell;have aN:=ae.r2.cell;clear ae hE A ax an az
  gi_wp2
  have hK:=ah.out.defd;have aH:=(Array.getElem?_eq_some_iff.1 hK).1;refine ⟨by simp,.inl ⟨_,_,rfl,run_takeDeferred hK,?_⟩⟩
  have put:∀{k:Nat} {ob:Obj} (ob':Obj),k≠N+5→W4.heap[k]?=some ob→(W4.putObj (N+5) ob').heap[k]?=some ob:=fun {k ob} ob' I G=>(World.putObj_heap_other I).trans G
  have m0:Boxed (W4.putObj (N+5) (.deferred none)) N 133 (.slice none 0 0):=put _ (by omega) ah.out.r0
  have m1:Boxed (W4.putObj (N+5) (.deferred none)) (N+1) 3 (.int .i64 (zC l a)):=put _ (by omega) ah.out.r1
  have m2:Boxed (W4.putObj (N+5) (.deferred none)) (N+2) 25 (.int .i64 (zs l a).e):=put _ (by omega) ah.out.r2
  have c0:=m0.cell;have c1:=m1.cell;have c2:=m2.cell;refine ⟨_,ZY rfl _ _ _ rfl rfl rfl (by simp [go_sem,c0];rfl) (by simp [go_sem,c1];rfl) (by simp [go_sem,c2];rfl),.slice none 0 0,?_⟩
  rw [YW he x 1 0 (l.length+1) ah.out.unto S (Nat.zero_le _) (by omega),←HN.out]
  exact ⟨rfl,World.ownsRow_nil _ _ _ _,ah.out.bel.trans ((Below.refl N W4).grown (grownBy_putObj' W4 _ _) (by omega) (fun k e=>by cases e;omega))⟩
 ·have A:=R.loop
  refine ⟨r0.pending,_,run_endLoop (P:=Tryz.prog) A (by rw [hst];simp),?_⟩
  have V:=R.put (ob':=.loop { r0 with state:=.exhausted }) rfl;generalize W2.putObj (N+6) (.loop { r0 with state:=.exhausted })=W4 at V ⊢;rw [hpe];show Exit.inBlock 0 _ Exit.normal _ W4
  have aA:Hid (ZB N w l (Obj.loop { r0 with state:=.exhausted }) (x++[tkT l line a]) (Zo l line a) (zC l a+(zs l a).sz) W4):=V;obtain ⟨r,af,O⟩:=V.all;have ar:=O;rw [List.length_append] at ar;obtain ⟨K,y,rfl⟩:=ownsRow_succ ar;clear ar;have k0:=V.r0;have k1:=V.r1;have k2:=V.r2;have aB:=k0.cell;have aU:=k0.frozen;have aQ:=k1.cell;have aS:=k1.frozen;have aN:=k2.cell;have a6:=k2.frozen;have a7:=af.cell;have j1:=k1.kept (grownBy_setCell' W4 N (.slice (some ⟨K,0,none⟩) (x.length+1) y)) (by simp)
  have j2:=k2.kept (grownBy_setCell' W4 N (.slice (some ⟨K,0,none⟩) (x.length+1) y)) (by simp)
  have bk:=j1.cell;have bj:=j1.frozen;have bl:=j2.cell;have bi:=j2.frozen;have bq:(W4.setCell ⟨N,0,none⟩ (.slice (some ⟨K,0,none⟩) (x.length+1) y)).setCell ⟨N+1,0,none⟩ (.int .i64 0)=W4.setCell ⟨N,0,none⟩ (.slice (some ⟨K,0,none⟩) (x.length+1) y):=ZK j1 rfl;have be:(W4.setCell ⟨N,0,none⟩ (.slice (some ⟨K,0,none⟩) (x.length+1) y)).setCell ⟨N+2,0,none⟩ (.int .i64 0)=W4.setCell ⟨N,0,none⟩ (.slice (some ⟨K,0,none⟩) (x.length+1) y):=ZK j2 rfl;have bo:=(k0.set (.slice (some ⟨K,0,none⟩) (x.length+1) y)).cell;clear V R A ax an az
  gi_wp2
  have a5:=aA.out.unto
  have hK:(W4.setCell ⟨N,0,none⟩ (.slice (some ⟨K,0,none⟩) (x.length+1) y)).heap[N+5]?=some (.deferred (some [])):=by
   rw [Below.heap_setCell _ _ _ _ (by simp)];exact aA.out.defd
  have aH:=(Array.getElem?_eq_some_iff.1 hK).1;have aI:=k0.set (.slice (some ⟨K,0,none⟩) (x.length+1) y);have L:=O.kept (grownBy_setCell' W4 N (.slice (some ⟨K,0,none⟩) (x.length+1) y)) (.inr (k0.not_row (by decide) O).symm)
  have aO:Below N w (W4.setCell ⟨N,0,none⟩ (.slice (some ⟨K,0,none⟩) (x.length+1) y)):=aA.out.bel.trans ((Below.refl N W4).setCell (p:=⟨N,0,none⟩) (Nat.le_refl _) _);generalize W4.setCell ⟨N,0,none⟩ (.slice (some ⟨K,0,none⟩) (x.length+1) y)=W5 at hK aH aI L aO j1 j2 ⊢;refine ⟨by simp,.inl ⟨_,_,rfl,run_takeDeferred hK,?_⟩⟩
  have put:∀{k:Nat} {ob:Obj} (ob':Obj),k≠N+5→W5.heap[k]?=some ob→(W5.putObj (N+5) ob').heap[k]?=some ob:=fun {k ob} ob' I G=>(World.putObj_heap_other I).trans G
  have m0:Boxed (W5.putObj (N+5) (.deferred none)) N 133 (.slice (some ⟨K,0,none⟩) (x.length+1) y):=put _ (by omega) aI
  have m1:Boxed (W5.putObj (N+5) (.deferred none)) (N+1) 3 (.int .i64 0):=put _ (by omega) j1
  have m2:Boxed (W5.putObj (N+5) (.deferred none)) (N+2) 25 (.int .i64 0):=put _ (by omega) j2
  have c0:=m0.cell;have c1:=m1.cell;have c2:=m2.cell;refine ⟨_,ZY rfl _ _ _ rfl rfl rfl (by simp [go_sem,c0];rfl) (by simp [go_sem,c1];rfl) (by simp [go_sem,c2];rfl),.slice (some ⟨K,0,none⟩) (x.length+1) y,?_⟩
  obtain ⟨aY,a',I,G,h3⟩:=yX a5;have aW:(zs l a').k=0:=by rw [←hk];exact (congrArg Tk.k h3).symm
  rw [YX G aW x 1 0 (l.length+1) I S (Nat.zero_le _) (by omega),←HN.out,←h3,List.length_append]
  rw [List.length_append] at L;exact ⟨rfl,ownsRow_putObj (vq L (show N≤N+7 by omega)) _ hK rfl,aO.trans ((Below.refl N W5).grown (grownBy_putObj' W5 _ _) (by omega) (fun k e=>by cases e;omega))⟩
end Go.Proofs.YtmbofhpmockmbaaGreatDoor
