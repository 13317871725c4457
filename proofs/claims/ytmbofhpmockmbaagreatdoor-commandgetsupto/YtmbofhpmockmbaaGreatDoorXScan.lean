import Derived.Test.YtmbofhpmockmbaaGreatDoorMC16
import Derived.Sort.QuietIn
namespace Go.Proofs.YtmbofhpmockmbaaGreatDoor
open Go.RowKit Go.Shelf
set_option maxHeartbeats 16000000
set_option maxRecDepth 100000
attribute [local go_sem] Oper.semAt_some
theorem ur (l:List UInt8) (w:World) (hl:l.length≤281474976710656) :
  Calls Tryz.prog 25 #[.string (za l)] w fun e w'=>e=.returned (.string (za l))∧Below w.heap.size w w':=by
 go_enter Tryz.func25,Tryz.ntmps25
 go_wp2_with fail
 refine (Tryz.stringslite_Clone (za l) w hl).mono ?_;rintro e y ⟨rfl,o⟩;have z:Hid (Below w.heap.size w y):=o;clear o;go_wp2
 go_ret
 exact ⟨rfl,z.out⟩
theorem ut (l:List UInt8) (w:World) :
  CallsIn Fence.wide 6 Tryz.prog 114 #[.string (za l)] w fun e w'=>e=.returned (.func (.func 138) #[] #[.pointer (some ⟨w.heap.size,0,none⟩)])∧w'=w.alloc (.cells #[.string (za l)] 9):=by
 refine callsIn_of_wp Tryz.func114 rfl trivial ?_ rfl;simp only [Tryz.ntmps114,List.size_toArray,List.length_cons,List.length_nil,Nat.reduceAdd,Nat.reduceSub,Array.replicate_succ,Array.replicate_zero,List.push_toArray,List.append_toArray,List.nil_append,List.cons_append]
 gi_wp2
 go_ret
 exact ⟨rfl,rfl⟩
theorem vE {n:Nat} {P:Program} {g:Operand} {ps:Array Tmp} {assign body:Code} {Q:Exit→Act→World→Prop} {a:Act} {w:World} {gf:Nat} {lb:Array Value}
  (hg:a.eval g=.func (.func gf) #[] lb) (eg:∀args w,(callFunc gf args).run P w=.ok (.enter gf args) w)
  (h:∀r0:Loop,r0.state=.ready→r0.pending=none→r0.tmps=a.tmps→r0.params=ps→r0.assign=assign→r0.body=body →
   CallsIn Fence.wide (n-1) P gf (#[.func (.yield (w.heap.size+1)) #[] #[]]++lb) ((w.alloc (.deferred (some []))).alloc (.loop r0)) (rangePost Fence.wide n P (w.heap.size+1) Q { a with defers:=[{ target:=.collected w.heap.size,args:=#[] }]++a.defers })) :
  (Code.rangeFunc g ps assign body).wpIn Fence.wide n P Q a w :=
 wpIn_rangeFunc fun fn _=>⟨_,_,_,{ target:=.fn (.func gf) lb,args:=#[.func (.yield (w.heap.size+1)) #[] #[]] },_,gf,_,_,run_enterLoop_outer fn a.tmps ps assign body,
  by simp only [resolve,hg];simp [go_sem];rfl,fun _ _=>trivial,by simp [invoke,go_sem,eg];rfl,(fun hd=>by cases hd),h _ rfl rfl rfl rfl rfl rfl⟩
theorem Uo:(Tryz.prog.info? 142).map (fun i=>(i.zero,i.size,i.bytes))=some (some (.agg #[.int .i64 0,.string ⟨#[]⟩,.int .i64 0,.int .i64 0,.int .i64 0]),5,48):=by kernel_rfl
structure Z0 (N:Nat) (w:World) (l:List UInt8) (ob:Obj) (pre:List Tk) (line a:Nat) (W:World):Prop where
 all:∃r,Boxed W (N+3) 133 r∧W.ownsRow (N+7) 142 5 r pre.length (z6 pre)
 r0:Boxed W N 133 (.slice none 0 0)
 r1:Boxed W (N+1) 3 (.int .i64 0)
 r2:Boxed W (N+2) 25 (.int .i64 0)
 sb:Boxed W (N+4) 9 (.string (za l))
 bel:Below N w W
 defd:W.heap[N+5]?=some (.deferred (some []))
 loop:W.heap[N+6]?=some ob
 unto:yq l 1 0 pre line a
structure VX (N:Nat) (w:World) (l:List UInt8) (ob:Obj) (pre:List Tk) (line a:Nat) (W:World):Prop where
 r0:Boxed W N 133 (.slice none 0 0)
 r1:Boxed W (N+1) 3 (.int .i64 (zG l a))
 r2:Boxed W (N+2) 25 (.int .i64 (zw l a).e)
 bel:Below N w W
 defd:W.heap[N+5]?=some (.deferred (some []))
 loop:W.heap[N+6]?=some ob
 unto:yq l 1 0 pre line a
theorem xB {w w':World} {B e sz n:Nat} {v:Value} {xs:List Value} (h:w.ownsRow B e sz v n xs) (hk:∀(k:Nat) (o:Array Value),w.heap[k]?=some (Obj.cells o e (0,0))→w'.heap[k]?=w.heap[k]?):w'.ownsRow B e sz v n xs:=by
 obtain ⟨G,y⟩:=h;refine ⟨G,?_⟩;rcases y with y | ⟨g,z,o,D,E,A,r⟩
 ·exact .inl y
 ·exact .inr ⟨g,z,o,D,E,(hk g o A).trans A,r⟩
theorem uu {w:World} {B B' e sz n:Nat} {v:Value} {xs:List Value} (h:w.ownsRow B e sz v n xs) (hB:B'≤B):w.ownsRow B' e sz v n xs:=by
 obtain ⟨E,o⟩:=h;refine ⟨E,?_⟩;rcases o with o | ⟨g,z,y,A,D,r⟩
 ·exact .inl o
 ·exact .inr ⟨g,z,y,A,Nat.le_trans hB D,r⟩
theorem Z0.grow {N:Nat} {w:World} {l:List UInt8} {ob:Obj} {pre:List Tk} {line a:Nat} {W W':World} (h:Z0 N w l ob pre line a W) (hB:Below W.heap.size W W'):Z0 N w l ob pre line a W':=by
 have M:N+6<W.heap.size:=(Array.getElem?_eq_some_iff.1 h.loop).1;obtain ⟨⟨r,K,z⟩,I,H,D,J,L,G,E,A⟩:=h;have y:∀{k:Nat} {o:Obj},W.heap[k]?=some o→W'.heap[k]?=some o:=fun {k o} hk=>(hB.block k (Array.getElem?_eq_some_iff.1 hk).1).trans hk
 exact ⟨⟨r,y K,xB z (fun k cur hk=>hB.block k (Array.getElem?_eq_some_iff.1 hk).1)⟩,y I,y H,y D,y J,L.trans (hB.mono (by omega)),y G,y E,A⟩
theorem Z0.put {N:Nat} {w:World} {l:List UInt8} {ob ob':Obj} {pre:List Tk} {line a:Nat} {W:World} (h:Z0 N w l ob pre line a W) (hob:ob.isCells=false):Z0 N w l ob' pre line a (W.putObj (N+6) ob'):=by
 have y:N+6<W.heap.size:=(Array.getElem?_eq_some_iff.1 h.loop).1;have E:=h.loop;obtain ⟨⟨r,K,z⟩,I,H,D,J,L,G,_,A⟩:=h;have o:∀{k:Nat},k≠N+6→(W.putObj (N+6) ob').heap[k]?=W.heap[k]?:=fun {k} hk=>World.putObj_heap_other hk
 refine ⟨⟨r,(o (by omega)).trans K,xB z (fun k cur hk=>o (fun e=>?_))⟩,(o (by omega)).trans I,(o (by omega)).trans H,(o (by omega)).trans D,(o (by omega)).trans J,?_,(o (by omega)).trans G,World.putObj_heap_same y,A⟩
 ·rw [e,E] at hk;cases hk;cases hob
 ·exact L.trans ((Below.refl N W).grown (grownBy_putObj' W _ _) (by omega) (fun k e=>by cases e;omega))
theorem yb {W:World} {b i:Nat} {v:Value} {cur:Array Value} {t:TypeId} {fr:Nat × Nat} (h:W.heap[b]?=some (.cells cur t fr)) (hv:cur[i]?=some v):W.setCell ⟨b,i,none⟩ v=W:=by
 have e:W.heap.modify b (fun | .cells c elem frozen=>.cells (if (none:Option Unit).isSome then c else c.setIfInBounds i v) elem frozen | o=>o)=W.heap:=by
  apply Array.ext_getElem?
  intro k
  by_cases hk:k=b
  ·subst hk
   rw [Array.getElem?_modify,h]
   have:cur.setIfInBounds i v=cur:=by
    apply Array.ext_getElem?
    intro j;rw [Array.getElem?_setIfInBounds]
    by_cases hj:i=j
    ·subst hj
     rw [hv]
     have:=(Array.getElem?_eq_some_iff.1 hv).1
     simp [this]
    ·simp [hj]
   simp [this]
  ·rw [Array.getElem?_modify,if_neg (by omega)]
 cases W
 unfold World.setCell
 simp only at e ⊢
 congr 1
theorem yr {fn:Func} {p q s:Tmp} {t1 t2 t3:TypeId} (h:fn.results=#[.cell p t1,.cell q t2,.cell s t3]) (tmps:Array Value) (P:Program) (w:World) {a1 a2 a3:Addr} {v1 v2 v3:Value}
  (h1:tmps.getD p undef=.pointer (some a1)) (h2:tmps.getD q undef=.pointer (some a2)) (h3:tmps.getD s undef=.pointer (some a3))
  (l1:(loadVar t1 a1).run P w=.ok v1 w) (l2:(loadVar t2 a2).run P w=.ok v2 w) (l3:(loadVar t3 a3).run P w=.ok v3 w) :
  (results fn tmps).run P w=.ok (.tuple #[v1,v2,v3]) w:=by
 rw [Array.getD_eq_getD_getElem?] at h1 h2 h3;simp only [results,h]
 simp [Sem.run_bind,Result.andThen,h1,h2,h3,l1,l2,l3,asAddr]
theorem Vj {W:World} {b i:Nat} {cur:Array Value} {t:TypeId} (h:W.heap[b]?=some (.cells cur t (0,0))):W.frozen? ⟨b,i,none⟩=false:=by simp [World.frozen?,h]
theorem Ye (W:World) (cs:List Value) (t:TypeId):∀j u,cs[j]?=some u→(W.alloc (.cells cs.toArray t)).cell? ((⟨W.heap.size,0,none⟩:Addr).add j)=some u:=fun j u h=>by
 rw [show (⟨W.heap.size,0,none⟩:Addr).add j=⟨W.heap.size,j,none⟩ by simp [Addr.add];try omega,cell_of_row _ _ _ _ _ _ (World.alloc_heap_new W _)]
 simpa using h
theorem UV (l:List UInt8) (w:World) (hl:l.length≤4096) (ht:ZB w) :
  Calls Tryz.prog 94 #[.string (za l)] w fun e w'=>∃(r:Value),e=.returned (.tuple #[r,.int .i64 (Zu l (l.length+1) 1 0).2.1,.int .i64 (Zu l (l.length+1) 1 0).2.2]) ∧
   w'.ownsRow w.heap.size 142 5 r (Zu l (l.length+1) 1 0).1.length (z6 (Zu l (l.length+1) 1 0).1)∧Below w.heap.size w w':=by
 obtain ⟨i0,hi,a0,aU,bb⟩:=info_parts Uo;have HT:Hid (ZB w):=ht;have bd:(za l).size=l.length:=rfl;clear ht;refine (callsIn_wide (n:=7)).1 ?_;refine callsIn_of_wp_marks Tryz.func94 rfl trivial ?_ rfl;simp only [Tryz.ntmps94,List.size_toArray,List.length_cons,List.length_nil,Nat.reduceAdd,Nat.reduceSub,Array.replicate_succ,Array.replicate_zero,List.push_toArray,List.append_toArray,List.nil_append,List.cons_append]
 gi_wp2_with (refine ⟨trivial,?_⟩;gi_at_call 114;refine (ut _ _).mono ?_;rintro e w' ⟨rfl,rfl⟩)
 refine vE rfl (enters_of Tryz.func138 (by kernel_rfl) rfl) (fun r0 hst hpe htm hpa has hbo=>?_)
 obtain ⟨N,hN⟩:∃N,N=w.heap.size:=⟨_,rfl⟩;obtain ⟨W0,I⟩:∃W0,W0=((((w.alloc (.cells #[.slice none 0 0] 133)).alloc (.cells #[.int .i64 0] 3)).alloc (.cells #[.int .i64 0] 25)).alloc (.cells #[.slice none 0 0] 133)).alloc (.cells #[.string (za l)] 9):=⟨_,rfl⟩;have ar:W0.heap.size=N+5:=by rw [I,hN];simp
 have aW:Below N w W0:=by
  rw [I,hN];exact (((((Below.refl _ w).alloc (Nat.le_refl _) _).alloc (by simp) _).alloc (by simp;omega) _).alloc (by simp;omega) _).alloc (by simp;omega) _
 have b0:Boxed W0 N 133 (.slice none 0 0):=by rw [I,hN];exact ((((Boxed.new w _ _).alloc _).alloc _).alloc _).alloc _
 have b1:Boxed W0 (N+1) 3 (.int .i64 0):=by
  have h:=(((Boxed.new (w.alloc (.cells #[.slice none 0 0] 133)) 3 (.int .i64 0)).alloc (.cells #[.int .i64 0] 25)).alloc (.cells #[.slice none 0 0] 133)).alloc (.cells #[.string (za l)] 9);rw [World.size_alloc] at h;rw [I,hN];exact h
 have b2:Boxed W0 (N+2) 25 (.int .i64 0):=by
  have h:=((Boxed.new ((w.alloc (.cells #[.slice none 0 0] 133)).alloc (.cells #[.int .i64 0] 3)) 25 (.int .i64 0)).alloc (.cells #[.slice none 0 0] 133)).alloc (.cells #[.string (za l)] 9);rw [World.size_alloc,World.size_alloc] at h;rw [I,hN];exact h
 have b3:Boxed W0 (N+3) 133 (.slice none 0 0):=by
  have h:=(Boxed.new (((w.alloc (.cells #[.slice none 0 0] 133)).alloc (.cells #[.int .i64 0] 3)).alloc (.cells #[.int .i64 0] 25)) 133 (.slice none 0 0)).alloc (.cells #[.string (za l)] 9);rw [World.size_alloc,World.size_alloc,World.size_alloc] at h;rw [I,hN];exact h
 have b4:Boxed W0 (N+4) 9 (.string (za l)):=by
  have h:=Boxed.new ((((w.alloc (.cells #[.slice none 0 0] 133)).alloc (.cells #[.int .i64 0] 3)).alloc (.cells #[.int .i64 0] 25)).alloc (.cells #[.slice none 0 0] 133)) 9 (.string (za l));rw [World.size_alloc,World.size_alloc,World.size_alloc,World.size_alloc] at h;rw [I,hN];exact h
 rw [←I,ar];simp only [Nat.add_assoc,Nat.reduceAdd] at htm ⊢;rw [←hN] at htm ⊢;have HN:Hid (N=w.heap.size):=hN;clear hN I
 have aA:((W0.alloc (.deferred (some []))).alloc (.loop r0)).heap[N+5]?=some (.deferred (some [])):=by
  rw [←ar];exact (Below.heap_alloc _ _ _ (by simp)).trans (World.alloc_heap_new W0 _)
 have aC:((W0.alloc (.deferred (some []))).alloc (.loop r0)).heap[N+6]?=some (.loop r0):=by
  have:=World.alloc_heap_new (W0.alloc (.deferred (some []))) (.loop r0)
  rwa [World.size_alloc,ar] at this
 have ao:Z0 N w l (.loop r0) [] 1 0 ((W0.alloc (.deferred (some []))).alloc (.loop r0)) :=
  ⟨⟨.slice none 0 0,(b3.alloc _).alloc _,World.ownsRow_nil _ _ _ _⟩,(b0.alloc _).alloc _,(b1.alloc _).alloc _,(b2.alloc _).alloc _,(b4.alloc _).alloc _,((aW.alloc (by omega) _).alloc (by simp;omega) _),aA,aC,rfl,rfl⟩
 obtain ⟨rE,aQ⟩:∃rE:Loop,rE={ r0 with state:=.done,pending:=some .ret }:=⟨_,rfl⟩;have av:Hid (rE={ r0 with state:=.done,pending:=some .ret }):=aQ;clear aQ;refine (Vi (N+6) (N+4) l hl (Z0 N w l (.loop r0)) (VX N w l (.loop rE)) ?hJc ?hJg ?hE ?hY _ ao).mono ?_
 case hJc =>
  intro y line a W Q U;exact ⟨U.sb.cell,HT.out.below U.bel (by rw [HN.out];exact Nat.le_refl _),(Yq y 1 0 U.unto Q (Nat.zero_le _) (by omega)).2.2⟩
 case hJg =>
  intro y line a W W' h hB;exact h.grow hB
 case hE =>
  intro y line a A o Q U he ha;have ad:Z0 N w l (.loop r0) y line a (A.alloc o):=U.grow ((Below.refl _ A).alloc (Nat.le_refl _) o);have D:=ad.loop;refine ⟨_,_,_,_,run_yield D (by rw [hpa];rfl),roundIn_of_wpIn trivial ?_⟩
  rw [has,hbo,htm,hpa];obtain ⟨T,hT⟩:∃T,T=tkT l line a:=⟨_,rfl⟩;rw [←hT];have an:Hid (T=tkT l line a):=hT;clear hT;obtain ⟨Y,ap⟩:∃Y,Y=(zw l a).e:=⟨_,rfl⟩;rw [←ap] at he ⊢;have aX:Hid (Y=(zw l a).e):=ap;clear ap;have bo:((Y:Int) != 0)=true:=by rw [bne_iff_ne];omega
  unfold uq
  simp only [List.zip_toArray,List.zip_cons_cons,List.zip_nil_right]
  gi_wp2
  have af:Z0 N w l (.loop r0) y line a ((A.alloc o).alloc (.cells #[.int .i64 T.k,.string (za T.s),.int .i64 T.n,.int .i64 T.line,.int .i64 T.at0] 142)):=ad.grow ((Below.refl _ _).alloc (Nat.le_refl _) _);have ak:=af.loop;refine ⟨_,run_beginRound (P:=Tryz.prog) ak hst,?_⟩;have E:=af.put (ob':=.loop { r0 with state:=.busy }) rfl;have aw:N+6<A.heap.size:=(Array.getElem?_eq_some_iff.1 U.loop).1
  have V:(((A.alloc o).alloc (.cells #[.int .i64 T.k,.string (za T.s),.int .i64 T.n,.int .i64 T.line,.int .i64 T.at0] 142)).putObj (N+6) (.loop { r0 with state:=.busy })).heap[A.heap.size+1]?=some (.cells #[.int .i64 T.k,.string (za T.s),.int .i64 T.n,.int .i64 T.line,.int .i64 T.at0] 142 (0,0)):=by
   rw [World.putObj_heap_other (by omega)]
   have:=World.alloc_heap_new (A.alloc o) (.cells #[.int .i64 T.k,.string (za T.s),.int .i64 T.n,.int .i64 T.line,.int .i64 T.at0] 142)
   rwa [World.size_alloc] at this
  generalize ((A.alloc o).alloc (.cells #[.int .i64 T.k,.string (za T.s),.int .i64 T.n,.int .i64 T.line,.int .i64 T.at0] 142)).putObj (N+6) (.loop { r0 with state:=.busy })=Wb at E V ⊢;obtain ⟨M,hM⟩:∃M,M=A.heap.size:=⟨_,rfl⟩;rw [←hM] at V aw ⊢;clear hM ak af D ad U;have aB:Hid (Z0 N w l (.loop { r0 with state:=.busy }) y line a Wb):=E;have k0:=E.r0;have k1:=E.r1;have k2:=E.r2;have aG:=k0.cell;have a1:=k0.frozen;have aP:=k1.cell;have a4:=k1.frozen;have aN:=k2.cell;have aY:=k2.frozen;clear E;have q4:Wb.cell? ⟨M+1,4,none⟩=some (.int .i64 T.at0):=by rw [cell_of_row _ _ _ _ _ _ V];rfl
  have s0:Wb.setCell ⟨N,0,none⟩ (.slice none 0 0)=Wb:=yb k0 rfl;have aV:(Wb.setCell ⟨N+1,0,none⟩ (.int .i64 T.at0)).cell? ⟨N+2,0,none⟩=some (.int .i64 0):=(k2.kept (grownBy_setCell' Wb (N+1) _) (by simp)).cell
  have bf:(Wb.setCell ⟨N+1,0,none⟩ (.int .i64 T.at0)).frozen? ⟨N+2,0,none⟩=false:=(k2.kept (grownBy_setCell' Wb (N+1) _) (by simp)).frozen
  have HF:Hid (∀aO,roundPost Tryz.prog (N+6) (fun e W'=>e=Ending.returned (Value.bool false)∧VX N w l (Obj.loop rE) y line a W') Exit.ret aO ((Wb.setCell ⟨N+1,0,none⟩ (.int .i64 T.at0)).setCell ⟨N+2,0,none⟩ (.int .i64 Y)).drew):=by
   intro aO;have J:=aB.out
   have ai:∀{k:Nat} {ob:Obj},k≠N+1→k≠N+2→Wb.heap[k]?=some ob→((Wb.setCell ⟨N+1,0,none⟩ (.int .i64 T.at0)).setCell ⟨N+2,0,none⟩ (.int .i64 Y)).drew.heap[k]?=some ob:=fun {k ob} K H h3=>by
    show ((Wb.setCell ⟨N+1,0,none⟩ (.int .i64 T.at0)).setCell ⟨N+2,0,none⟩ (.int .i64 Y)).heap[k]?=some ob
    rw [Below.heap_setCell _ _ _ _ (by simpa using H),Below.heap_setCell _ _ _ _ (by simpa using K),h3]
   have m1:Boxed ((Wb.setCell ⟨N+1,0,none⟩ (.int .i64 T.at0)).setCell ⟨N+2,0,none⟩ (.int .i64 Y)).drew (N+1) 3 (.int .i64 T.at0):=by
    have h:=(k1.set (.int .i64 T.at0)).kept (grownBy_setCell' (Wb.setCell ⟨N+1,0,none⟩ (.int .i64 T.at0)) (N+2) (.int .i64 Y)) (by simp)
    exact h
   have m2:Boxed ((Wb.setCell ⟨N+1,0,none⟩ (.int .i64 T.at0)).setCell ⟨N+2,0,none⟩ (.int .i64 Y)).drew (N+2) 25 (.int .i64 Y):=(k2.kept (grownBy_setCell' Wb (N+1) (.int .i64 T.at0)) (by simp)).set (.int .i64 Y)
   have hB:Below N Wb ((Wb.setCell ⟨N+1,0,none⟩ (.int .i64 T.at0)).setCell ⟨N+2,0,none⟩ (.int .i64 Y)).drew:=(((Below.refl N Wb).setCell (p:=⟨N+1,0,none⟩) (by simp) _).setCell (p:=⟨N+2,0,none⟩) (by simp) _).trans (⟨rfl,rfl,rfl,Nat.le_refl _,fun _ _=>rfl⟩:Below N ((Wb.setCell ⟨N+1,0,none⟩ (.int .i64 T.at0)).setCell ⟨N+2,0,none⟩ (.int .i64 Y)) ((Wb.setCell ⟨N+1,0,none⟩ (.int .i64 T.at0)).setCell ⟨N+2,0,none⟩ (.int .i64 Y)).drew)
   have m0:=ai (k:=N) (by omega) (by omega) J.r0
   have md:=ai (k:=N+5) (by omega) (by omega) J.defd
   have ml:=ai (k:=N+6) (by omega) (by omega) J.loop
   generalize ((Wb.setCell ⟨N+1,0,none⟩ (.int .i64 T.at0)).setCell ⟨N+2,0,none⟩ (.int .i64 Y)).drew=X at m0 m1 m2 md ml hB ⊢;have hX:=(Array.getElem?_eq_some_iff.1 ml).1;refine ⟨_,_,run_endRound (some .ret) ml,rfl,?_⟩
   have au:({ { r0 with state:=.busy } with state:=if (some Code.ret).isNone then .ready else .done,pending:=some .ret }:Loop)=rE:=by
    rw [av.out];rfl
   rw [au];have e1:T.at0=zG l a:=by rw [an.out];rfl
   rw [e1] at m1;rw [aX.out] at m2;have put:∀{k:Nat} {ob:Obj},k≠N+6→X.heap[k]?=some ob→(X.putObj (N+6) (.loop rE)).heap[k]?=some ob:=fun {k ob} K H=>(World.putObj_heap_other K).trans H
   exact ⟨put (by omega) m0,put (by omega) m1,put (by omega) m2,(J.bel.trans hB).trans ((Below.refl N X).grown (grownBy_putObj' X _ _) (by omega) (fun k e=>by cases e;omega)),put (by omega) md,World.putObj_heap_same hX,J.unto⟩
  gi_wp2
  gi_region
  all_goals (gi_wp2;exact HF.out _)
 case hY =>
  intro y line a A o Q U he ha;have ad:Z0 N w l (.loop r0) y line a (A.alloc o):=U.grow ((Below.refl _ A).alloc (Nat.le_refl _) o);have bs:=Yq y 1 0 U.unto Q (Nat.zero_le _) (by omega)
  have D:=ad.loop;refine ⟨_,_,_,_,run_yield D (by rw [hpa];rfl),roundIn_of_wpIn trivial ?_⟩
  rw [has,hbo,htm,hpa];obtain ⟨T,hT⟩:∃T,T=tkT l line a:=⟨_,rfl⟩;rw [←hT];have an:Hid (T=tkT l line a):=hT;clear hT
  unfold uq
  simp only [List.zip_toArray,List.zip_cons_cons,List.zip_nil_right]
  gi_wp2
  have af:Z0 N w l (.loop r0) y line a ((A.alloc o).alloc (.cells #[.int .i64 T.k,.string (za T.s),.int .i64 T.n,.int .i64 T.line,.int .i64 T.at0] 142)):=ad.grow ((Below.refl _ _).alloc (Nat.le_refl _) _);have ak:=af.loop;refine ⟨_,run_beginRound (P:=Tryz.prog) ak hst,?_⟩;have E:=af.put (ob':=.loop { r0 with state:=.busy }) rfl;have aw:N+6<A.heap.size:=(Array.getElem?_eq_some_iff.1 U.loop).1
  have ho:(((A.alloc o).alloc (.cells #[.int .i64 T.k,.string (za T.s),.int .i64 T.n,.int .i64 T.line,.int .i64 T.at0] 142)).putObj (N+6) (.loop { r0 with state:=.busy })).heap[A.heap.size]?=some o:=by
   rw [World.putObj_heap_other (by omega),Below.heap_alloc _ _ _ (by simp)]
   exact World.alloc_heap_new A _
  have V:(((A.alloc o).alloc (.cells #[.int .i64 T.k,.string (za T.s),.int .i64 T.n,.int .i64 T.line,.int .i64 T.at0] 142)).putObj (N+6) (.loop { r0 with state:=.busy })).heap[A.heap.size+1]?=some (.cells #[.int .i64 T.k,.string (za T.s),.int .i64 T.n,.int .i64 T.line,.int .i64 T.at0] 142 (0,0)):=by
   rw [World.putObj_heap_other (by omega)]
   have:=World.alloc_heap_new (A.alloc o) (.cells #[.int .i64 T.k,.string (za T.s),.int .i64 T.n,.int .i64 T.line,.int .i64 T.at0] 142)
   rwa [World.size_alloc] at this
  have aa:∀k,k≠N+6→k<A.heap.size→∀ob,A.heap[k]?=some ob→(((A.alloc o).alloc (.cells #[.int .i64 T.k,.string (za T.s),.int .i64 T.n,.int .i64 T.line,.int .i64 T.at0] 142)).putObj (N+6) (.loop { r0 with state:=.busy })).heap[k]?=some ob:=fun k K H ob h3=>by
   rw [World.putObj_heap_other K,Below.heap_alloc _ _ _ (by simp;omega),Below.heap_alloc _ _ _ H,h3]
  have ay:(((A.alloc o).alloc (.cells #[.int .i64 T.k,.string (za T.s),.int .i64 T.n,.int .i64 T.line,.int .i64 T.at0] 142)).putObj (N+6) (.loop { r0 with state:=.busy })).heap.size=A.heap.size+2:=by
   simp
  generalize ((A.alloc o).alloc (.cells #[.int .i64 T.k,.string (za T.s),.int .i64 T.n,.int .i64 T.line,.int .i64 T.at0] 142)).putObj (N+6) (.loop { r0 with state:=.busy })=Wb at E ho V ay aa ⊢
  have a6:T.s.length≤281474976710656:=by
   rw [an.out];have K:=qk (l.drop (a+Z7 (l.drop a)));rw [List.length_drop] at K;have H:(tkT l line a).s=(ZJ (l.drop (a+Z7 (l.drop a)))).s:=rfl;rw [H];omega
  obtain ⟨ra,aL,aF⟩:=U.all;have aR:Boxed Wb (N+3) 133 ra:=aa _ (by omega) (by omega) _ aL
  have aq:∀g,some g=ra.ownBlock→g<A.heap.size:=fun g e=>(aF.lt g e.symm).2
  obtain ⟨M,hM⟩:∃M,M=A.heap.size:=⟨_,rfl⟩;rw [←hM] at ho V ay aw aq ⊢;have a9:Hid (Boxed Wb (N+3) 133 ra):=aR;have aZ:Hid (∀g,some g=ra.ownBlock→g<M):=aq;have HM:Hid (M=A.heap.size):=hM;clear hM ak af D ad aa aR aq aL aF U;have aB:Hid (Z0 N w l (.loop { r0 with state:=.busy }) y line a Wb):=E;clear E;have q1:Wb.cell? ⟨M+1,1,none⟩=some (.string (za T.s)):=by rw [cell_of_row _ _ _ _ _ _ V];rfl
  have br:y.length≤5000:=by omega
  gi_wp2_with (first
   | (refine ⟨trivial,?_⟩;gi_at_call 25;refine (callsIn_wide.2 (ur _ _ a6)).mono ?_;rintro e w3 ⟨rfl,al⟩
      have Z:w3.heap[M+1]?=some (.cells #[.int .i64 T.k,.string (za T.s),.int .i64 T.n,.int .i64 T.line,.int .i64 T.at0] 142 (0,0)):=(al.block _ (by omega)).trans V
      have q2:w3.setCell ⟨M+1,1,none⟩ (.string (za T.s))=w3:=yb Z rfl;have q3:=Vj (i:=1) Z;have c0:w3.cell? ⟨M+1,0,none⟩=some (.int .i64 T.k):=by rw [cell_of_row _ _ _ _ _ _ Z];rfl
      have c1:w3.cell? ⟨M+1,1,none⟩=some (.string (za T.s)):=by rw [cell_of_row _ _ _ _ _ _ Z];rfl
      have c2:w3.cell? ⟨M+1,2,none⟩=some (.int .i64 T.n):=by rw [cell_of_row _ _ _ _ _ _ Z];rfl
      have c3:w3.cell? ⟨M+1,3,none⟩=some (.int .i64 T.line):=by rw [cell_of_row _ _ _ _ _ _ Z];rfl
      have c4:w3.cell? ⟨M+1,4,none⟩=some (.int .i64 T.at0):=by rw [cell_of_row _ _ _ _ _ _ Z];rfl
      have aE:Hid (Z0 N w l (.loop { r0 with state:=.busy }) y line a w3):=aB.out.grow al;obtain ⟨r,aj,R⟩:=aE.out.all;have bg:=aj.cell;have bj:M+2≤w3.heap.size:=by rw [←ay];exact al.size
      have bc:w3.heap[M]?=some o:=(al.block _ (by omega)).trans ho)
   | (gi_at_builtin;refine wpListIn_append_own _ rfl _ _ 133 rfl (N+7) 142 i0 _ 5 48 Tryz.underlying133 hi a0 aU bb rfl (by decide) _ _ _ rfl (R.alloc _) ⟨w3.heap.size,0,none⟩ 1 1 [.int .i64 T.k,.string (za T.s),.int .i64 T.n,.int .i64 T.line,.int .i64 T.at0] rfl rfl (Ye _ _ _) (by simp [Value.oneCell']) (by unfold maxLen;omega) (by omega) (by simp;omega) ?_;intro v' w4 ae am _;obtain ⟨L,z,rfl⟩:=ownsRow_succ ae;have O:=(aj.alloc (.cells #[.int .i64 T.k,.string (za T.s),.int .i64 T.n,.int .i64 T.line,.int .i64 T.at0] 142)).kept am (aj.not_row (by decide) R);have bl:=O.cell;have bq:=O.frozen))
  have aH:(w3.alloc (.cells #[.int .i64 T.k,.string (za T.s),.int .i64 T.n,.int .i64 T.line,.int .i64 T.at0] 142)).grownBy w4 r.ownBlock:=am
  have a8:r=ra:=by
   have K:Boxed w3 (N+3) 133 ra:=(al.block _ (by omega)).trans a9.out
   have H:=aj.cell.symm.trans K.cell;exact Option.some.inj H
  have ai:∀k,k<w3.heap.size→some k≠r.ownBlock→w4.heap[k]?=w3.heap[k]?:=fun k hk hn=>(aH.block k (by simp;omega) hn).trans (Below.heap_alloc _ _ _ hk)
  have G:∀{k:Nat} {ob:Obj},k<N+7→k≠N+3→w3.heap[k]?=some ob→(w4.setCell ⟨N+3,0,none⟩ (.slice (some ⟨L,0,none⟩) (y.length+1) z)).heap[k]?=some ob:=fun {k ob} K H h3=>by
   rw [Below.heap_setCell _ _ _ _ (by simpa using H),ai k (Array.getElem?_eq_some_iff.1 h3).1 (fun e=>by have:=(R.lt _ e.symm).1;omega),h3]
  have aM:Z0 N w l (.loop { r0 with state:=.busy }) (y++[T]) (ZK l line a) (zG l a+(zw l a).sz) (w4.setCell ⟨N+3,0,none⟩ (.slice (some ⟨L,0,none⟩) (y.length+1) z)):=by
   have J:=aE.out;refine ⟨⟨_,O.set _,?_⟩,G (by omega) (by omega) J.r0,G (by omega) (by omega) J.r1,G (by omega) (by omega) J.r2,G (by omega) (by omega) J.sb,?_,G (by omega) (by omega) J.defd,G (by omega) (by omega) J.loop,?_⟩
   ·rw [List.length_append,xz]
    exact ae.kept (grownBy_setCell' w4 (N+3) _) (.inr (O.not_row (by decide) ae).symm)
   ·exact J.bel.trans ((((Below.refl N w3).alloc (by omega) _).grown aH (by simp;omega) (fun j ej=>by have:=(R.lt j ej).1;omega)).setCell (p:=⟨N+3,0,none⟩) (by simp) _)
   ·rw [an.out];exact YY he J.unto
  have ba:=aM.loop
  have a7:(w4.setCell ⟨N+3,0,none⟩ (.slice (some ⟨L,0,none⟩) (y.length+1) z)).heap[M]?=some o:=by
   rw [Below.heap_setCell _ _ _ _ (by simp;omega),ai M (by omega) (fun e=>by rw [a8] at e;have:=aZ.out _ e;omega),bc]
  refine ⟨_,_,run_endRound none ba,rfl,?_⟩
  have au:({ { r0 with state:=.busy } with state:=if (none:Option Code).isNone then .ready else .done,pending:=none }:Loop)=r0:=by
   cases r0;simp_all
  rw [au];refine ⟨aM.put rfl,?_⟩;rw [World.putObj_heap_other (by omega)]
  exact a7
 rintro e W2 ⟨⟨u,rfl⟩,aS⟩;rcases aS with ⟨y,line,a,Q,he,hE⟩ | ⟨y,line,a,Q,he,hk,U⟩
 ·have D:=hE.loop
  have a2:rE.state≠.busy:=by rw [av.out];simp
  have aI:rE.pending=some .ret:=by rw [av.out]
  refine ⟨rE.pending,_,run_endLoop (P:=Tryz.prog) D a2,?_⟩;rw [aI];have hX:=(Array.getElem?_eq_some_iff.1 D).1
  have ag:VX N w l (.loop { rE with state:=.exhausted }) y line a (W2.putObj (N+6) (.loop { rE with state:=.exhausted })):=by
   have put:∀{k:Nat} {ob:Obj},k≠N+6→W2.heap[k]?=some ob→(W2.putObj (N+6) (.loop { rE with state:=.exhausted })).heap[k]?=some ob:=fun {k ob} K H=>(World.putObj_heap_other K).trans H
   exact ⟨put (by omega) hE.r0,put (by omega) hE.r1,put (by omega) hE.r2,hE.bel.trans ((Below.refl N W2).grown (grownBy_putObj' W2 _ _) (by omega) (fun k e=>by cases e;omega)),put (by omega) hE.defd,World.putObj_heap_same hX,hE.unto⟩
  rw [aI] at ag
  dsimp only
  generalize W2.putObj (N+6) (.loop { rE with state:=.exhausted,pending:=some .ret })=W4 at ag ⊢;have ah:Hid (VX N w l (.loop { rE with state:=.exhausted,pending:=some .ret }) y line a W4):=ag;have aG:=ag.r0.cell;have aP:=ag.r1.cell;have aN:=ag.r2.cell;clear ag hE D ao aC aA
  gi_wp2
  have hK:=ah.out.defd;have aJ:=(Array.getElem?_eq_some_iff.1 hK).1;refine ⟨by simp,.inl ⟨_,_,rfl,run_takeDeferred hK,?_⟩⟩
  have put:∀{k:Nat} {ob:Obj} (ob':Obj),k≠N+5→W4.heap[k]?=some ob→(W4.putObj (N+5) ob').heap[k]?=some ob:=fun {k ob} ob' K H=>(World.putObj_heap_other K).trans H
  have m0:Boxed (W4.putObj (N+5) (.deferred none)) N 133 (.slice none 0 0):=put _ (by omega) ah.out.r0
  have m1:Boxed (W4.putObj (N+5) (.deferred none)) (N+1) 3 (.int .i64 (zG l a)):=put _ (by omega) ah.out.r1
  have m2:Boxed (W4.putObj (N+5) (.deferred none)) (N+2) 25 (.int .i64 (zw l a).e):=put _ (by omega) ah.out.r2
  have c0:=m0.cell;have c1:=m1.cell;have c2:=m2.cell;refine ⟨_,yr rfl _ _ _ rfl rfl rfl (by simp [go_sem,c0];rfl) (by simp [go_sem,c1];rfl) (by simp [go_sem,c2];rfl),.slice none 0 0,?_⟩
  rw [Xt he y 1 0 (l.length+1) ah.out.unto Q (Nat.zero_le _) (by omega),←HN.out]
  exact ⟨rfl,World.ownsRow_nil _ _ _ _,ah.out.bel.trans ((Below.refl N W4).grown (grownBy_putObj' W4 _ _) (by omega) (fun k e=>by cases e;omega))⟩
 ·have D:=U.loop
  refine ⟨r0.pending,_,run_endLoop (P:=Tryz.prog) D (by rw [hst];simp),?_⟩
  have ab:=U.put (ob':=.loop { r0 with state:=.exhausted }) rfl;generalize W2.putObj (N+6) (.loop { r0 with state:=.exhausted })=W4 at ab ⊢;rw [hpe];show Exit.inBlock 0 _ Exit.normal _ W4
  have ax:Hid (Z0 N w l (Obj.loop { r0 with state:=.exhausted }) (y++[tkT l line a]) (ZK l line a) (zG l a+(zw l a).sz) W4):=ab;obtain ⟨r,aj,R⟩:=ab.all;have az:=R;rw [List.length_append] at az;obtain ⟨L,z,rfl⟩:=ownsRow_succ az;clear az;have k0:=ab.r0;have k1:=ab.r1;have k2:=ab.r2;have aG:=k0.cell;have a1:=k0.frozen;have aP:=k1.cell;have a4:=k1.frozen;have aN:=k2.cell;have aY:=k2.frozen;have aV:=aj.cell;have j1:=k1.kept (grownBy_setCell' W4 N (.slice (some ⟨L,0,none⟩) (y.length+1) z)) (by simp)
  have j2:=k2.kept (grownBy_setCell' W4 N (.slice (some ⟨L,0,none⟩) (y.length+1) z)) (by simp)
  have bh:=j1.cell;have bn:=j1.frozen;have bk:=j2.cell;have be:=j2.frozen;have bm:(W4.setCell ⟨N,0,none⟩ (.slice (some ⟨L,0,none⟩) (y.length+1) z)).setCell ⟨N+1,0,none⟩ (.int .i64 0)=W4.setCell ⟨N,0,none⟩ (.slice (some ⟨L,0,none⟩) (y.length+1) z):=yb j1 rfl;have bi:(W4.setCell ⟨N,0,none⟩ (.slice (some ⟨L,0,none⟩) (y.length+1) z)).setCell ⟨N+2,0,none⟩ (.int .i64 0)=W4.setCell ⟨N,0,none⟩ (.slice (some ⟨L,0,none⟩) (y.length+1) z):=yb j2 rfl;have bp:=(k0.set (.slice (some ⟨L,0,none⟩) (y.length+1) z)).cell;clear ab U D ao aC aA
  gi_wp2
  have a3:=ax.out.unto
  have hK:(W4.setCell ⟨N,0,none⟩ (.slice (some ⟨L,0,none⟩) (y.length+1) z)).heap[N+5]?=some (.deferred (some [])):=by
   rw [Below.heap_setCell _ _ _ _ (by simp)];exact ax.out.defd
  have aJ:=(Array.getElem?_eq_some_iff.1 hK).1;have aK:=k0.set (.slice (some ⟨L,0,none⟩) (y.length+1) z);have O:=R.kept (grownBy_setCell' W4 N (.slice (some ⟨L,0,none⟩) (y.length+1) z)) (.inr (k0.not_row (by decide) R).symm)
  have aD:Below N w (W4.setCell ⟨N,0,none⟩ (.slice (some ⟨L,0,none⟩) (y.length+1) z)):=ax.out.bel.trans ((Below.refl N W4).setCell (p:=⟨N,0,none⟩) (Nat.le_refl _) _);generalize W4.setCell ⟨N,0,none⟩ (.slice (some ⟨L,0,none⟩) (y.length+1) z)=W5 at hK aJ aK O aD j1 j2 ⊢;refine ⟨by simp,.inl ⟨_,_,rfl,run_takeDeferred hK,?_⟩⟩
  have put:∀{k:Nat} {ob:Obj} (ob':Obj),k≠N+5→W5.heap[k]?=some ob→(W5.putObj (N+5) ob').heap[k]?=some ob:=fun {k ob} ob' K H=>(World.putObj_heap_other K).trans H
  have m0:Boxed (W5.putObj (N+5) (.deferred none)) N 133 (.slice (some ⟨L,0,none⟩) (y.length+1) z):=put _ (by omega) aK
  have m1:Boxed (W5.putObj (N+5) (.deferred none)) (N+1) 3 (.int .i64 0):=put _ (by omega) j1
  have m2:Boxed (W5.putObj (N+5) (.deferred none)) (N+2) 25 (.int .i64 0):=put _ (by omega) j2
  have c0:=m0.cell;have c1:=m1.cell;have c2:=m2.cell;refine ⟨_,yr rfl _ _ _ rfl rfl rfl (by simp [go_sem,c0];rfl) (by simp [go_sem,c1];rfl) (by simp [go_sem,c2];rfl),.slice (some ⟨L,0,none⟩) (y.length+1) z,?_⟩
  obtain ⟨a5,a',K,H,h3⟩:=YZ a3;have aT:(zw l a').k=0:=by rw [←hk];exact (congrArg Tk.k h3).symm
  rw [Xu H aT y 1 0 (l.length+1) K Q (Nat.zero_le _) (by omega),←HN.out,←h3,List.length_append]
  rw [List.length_append] at O;exact ⟨rfl,ownsRow_putObj (uu O (show N≤N+7 by omega)) _ hK rfl,aD.trans ((Below.refl N W5).grown (grownBy_putObj' W5 _ _) (by omega) (fun k e=>by cases e;omega))⟩
end Go.Proofs.YtmbofhpmockmbaaGreatDoor
