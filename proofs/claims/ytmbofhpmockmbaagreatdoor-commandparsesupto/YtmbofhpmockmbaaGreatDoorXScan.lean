import Derived.Test.YtmbofhpmockmbaaGreatDoorMC7
import Derived.Sort.QuietIn
namespace Go.Proofs.YtmbofhpmockmbaaGreatDoor
open Go.RowKit Go.Shelf
set_option maxHeartbeats 16000000
set_option maxRecDepth 100000
attribute [local go_sem] Oper.semAt_some
theorem qF (l:List UInt8) (w:World) (hl:l.length≤281474976710656) :
  Calls Tryz.prog 25 #[.string (za l)] w fun e w'=>e=.returned (.string (za l))∧Below w.heap.size w w':=by
 go_enter Tryz.func25,Tryz.ntmps25
 go_wp2_with fail
 refine (Tryz.stringslite_Clone (za l) w hl).mono ?_;rintro e y ⟨rfl,h⟩;have o:Hid (Below w.heap.size w y):=h;clear h;go_wp2
 go_ret
 exact ⟨rfl,o.out⟩
theorem qG (l:List UInt8) (w:World) :
  CallsIn Fence.wide 6 Tryz.prog 114 #[.string (za l)] w fun e w'=>e=.returned (.func (.func 138) #[] #[.pointer (some ⟨w.heap.size,0,none⟩)])∧w'=w.alloc (.cells #[.string (za l)] 9):=by
 refine callsIn_of_wp Tryz.func114 rfl trivial ?_ rfl;simp only [Tryz.ntmps114,List.size_toArray,List.length_cons,List.length_nil,Nat.reduceAdd,Nat.reduceSub,Array.replicate_succ,Array.replicate_zero,List.push_toArray,List.append_toArray,List.nil_append,List.cons_append]
 gi_wp2
 go_ret
 exact ⟨rfl,rfl⟩
theorem ur {n:Nat} {P:Program} {g:Operand} {ps:Array Tmp} {assign body:Code} {Q:Exit→Act→World→Prop} {a:Act} {w:World} {gf:Nat} {lb:Array Value}
  (hg:a.eval g=.func (.func gf) #[] lb) (eg:∀args w,(callFunc gf args).run P w=.ok (.enter gf args) w)
  (h:∀r0:Loop,r0.state=.ready→r0.pending=none→r0.tmps=a.tmps→r0.params=ps→r0.assign=assign→r0.body=body →
   CallsIn Fence.wide (n-1) P gf (#[.func (.yield (w.heap.size+1)) #[] #[]]++lb) ((w.alloc (.deferred (some []))).alloc (.loop r0)) (rangePost Fence.wide n P (w.heap.size+1) Q { a with defers:=[{ target:=.collected w.heap.size,args:=#[] }]++a.defers })) :
  (Code.rangeFunc g ps assign body).wpIn Fence.wide n P Q a w :=
 wpIn_rangeFunc fun fn _=>⟨_,_,_,{ target:=.fn (.func gf) lb,args:=#[.func (.yield (w.heap.size+1)) #[] #[]] },_,gf,_,_,run_enterLoop_outer fn a.tmps ps assign body,
  by simp only [resolve,hg];simp [go_sem];rfl,fun _ _=>trivial,by simp [invoke,go_sem,eg];rfl,(fun hd=>by cases hd),h _ rfl rfl rfl rfl rfl rfl⟩
theorem ut:(Tryz.prog.info? 142).map (fun i=>(i.zero,i.size,i.bytes))=some (some (.agg #[.int .i64 0,.string ⟨#[]⟩,.int .i64 0,.int .i64 0,.int .i64 0]),5,48):=by kernel_rfl
structure yy (N:Nat) (w:World) (l:List UInt8) (ob:Obj) (pre:List Tk) (line a:Nat) (W:World):Prop where
 all:∃r,Boxed W (N+3) 133 r∧W.ownsRow (N+7) 142 5 r pre.length (zA pre)
 r0:Boxed W N 133 (.slice none 0 0)
 r1:Boxed W (N+1) 3 (.int .i64 0)
 r2:Boxed W (N+2) 25 (.int .i64 0)
 sb:Boxed W (N+4) 9 (.string (za l))
 bel:Below N w W
 defd:W.heap[N+5]?=some (.deferred (some []))
 loop:W.heap[N+6]?=some ob
 unto:Yh l 1 0 pre line a
structure U0 (N:Nat) (w:World) (l:List UInt8) (ob:Obj) (pre:List Tk) (line a:Nat) (W:World):Prop where
 r0:Boxed W N 133 (.slice none 0 0)
 r1:Boxed W (N+1) 3 (.int .i64 (zn l a))
 r2:Boxed W (N+2) 25 (.int .i64 (zv l a).e)
 bel:Below N w W
 defd:W.heap[N+5]?=some (.deferred (some []))
 loop:W.heap[N+6]?=some ob
 unto:Yh l 1 0 pre line a
theorem yU {w w':World} {B e sz n:Nat} {v:Value} {xs:List Value} (h:w.ownsRow B e sz v n xs) (hk:∀(k:Nat) (o:Array Value),w.heap[k]?=some (Obj.cells o e (0,0))→w'.heap[k]?=w.heap[k]?):w'.ownsRow B e sz v n xs:=by
 obtain ⟨G,z⟩:=h;refine ⟨G,?_⟩;rcases z with z | ⟨g,y,o,E,D,A,r⟩
 ·exact .inl z
 ·exact .inr ⟨g,y,o,E,D,(hk g o A).trans A,r⟩
theorem qH {w:World} {B B' e sz n:Nat} {v:Value} {xs:List Value} (h:w.ownsRow B e sz v n xs) (hB:B'≤B):w.ownsRow B' e sz v n xs:=by
 obtain ⟨E,z⟩:=h;refine ⟨E,?_⟩;rcases z with z | ⟨g,o,y,D,A,r⟩
 ·exact .inl z
 ·exact .inr ⟨g,o,y,D,Nat.le_trans hB A,r⟩
theorem yy.grow {N:Nat} {w:World} {l:List UInt8} {ob:Obj} {pre:List Tk} {line a:Nat} {W W':World} (h:yy N w l ob pre line a W) (hB:Below W.heap.size W W'):yy N w l ob pre line a W':=by
 have K:N+6<W.heap.size:=(Array.getElem?_eq_some_iff.1 h.loop).1;obtain ⟨⟨r,G,H⟩,E,A,D,J,z,hd,I,y⟩:=h;have e:∀{k:Nat} {o:Obj},W.heap[k]?=some o→W'.heap[k]?=some o:=fun {k o} hk=>(hB.block k (Array.getElem?_eq_some_iff.1 hk).1).trans hk
 exact ⟨⟨r,e G,yU H (fun k cur hk=>hB.block k (Array.getElem?_eq_some_iff.1 hk).1)⟩,e E,e A,e D,e J,z.trans (hB.mono (by omega)),e hd,e I,y⟩
theorem yy.put {N:Nat} {w:World} {l:List UInt8} {ob ob':Obj} {pre:List Tk} {line a:Nat} {W:World} (h:yy N w l ob pre line a W) (hob:ob.isCells=false):yy N w l ob' pre line a (W.putObj (N+6) ob'):=by
 have I:N+6<W.heap.size:=(Array.getElem?_eq_some_iff.1 h.loop).1;have J:=h.loop;obtain ⟨⟨r,G,H⟩,E,A,D,K,z,hd,_,y⟩:=h;have o:∀{k:Nat},k≠N+6→(W.putObj (N+6) ob').heap[k]?=W.heap[k]?:=fun {k} hk=>World.putObj_heap_other hk
 refine ⟨⟨r,(o (by omega)).trans G,yU H (fun k cur hk=>o (fun e=>?_))⟩,(o (by omega)).trans E,(o (by omega)).trans A,(o (by omega)).trans D,(o (by omega)).trans K,?_,(o (by omega)).trans hd,World.putObj_heap_same I,y⟩
 ·rw [e,J] at hk;cases hk;cases hob
 ·exact z.trans ((Below.refl N W).grown (grownBy_putObj' W _ _) (by omega) (fun k e=>by cases e;omega))
theorem yK {W:World} {b i:Nat} {v:Value} {cur:Array Value} {t:TypeId} {fr:Nat × Nat} (h:W.heap[b]?=some (.cells cur t fr)) (hv:cur[i]?=some v):W.setCell ⟨b,i,none⟩ v=W:=by
 have e:W.heap.modify b (fun | .cells c elem frozen=>.cells (if (none:Option Unit).isSome then c else c.setIfInBounds i v) elem frozen | o=>o)=W.heap:=by
  apply Array.ext_getElem?
  intro k
  by_cases hk:k=b
  ·subst hk
   rw [Array.getElem?_modify,h]
   have:cur.setIfInBounds i v=cur:=by
    apply Array.ext_getElem?
    intro j;rw [Array.getElem?_setIfInBounds]
    by_cases hj:i=j
    ·subst hj
     rw [hv]
     have:=(Array.getElem?_eq_some_iff.1 hv).1
     simp [this]
    ·simp [hj]
   simp [this]
  ·rw [Array.getElem?_modify,if_neg (by omega)]
 cases W
 unfold World.setCell
 simp only at e ⊢
 congr 1
theorem Yi {fn:Func} {p q s:Tmp} {t1 t2 t3:TypeId} (h:fn.results=#[.cell p t1,.cell q t2,.cell s t3]) (tmps:Array Value) (P:Program) (w:World) {a1 a2 a3:Addr} {v1 v2 v3:Value}
  (h1:tmps.getD p undef=.pointer (some a1)) (h2:tmps.getD q undef=.pointer (some a2)) (h3:tmps.getD s undef=.pointer (some a3))
  (l1:(loadVar t1 a1).run P w=.ok v1 w) (l2:(loadVar t2 a2).run P w=.ok v2 w) (l3:(loadVar t3 a3).run P w=.ok v3 w) :
  (results fn tmps).run P w=.ok (.tuple #[v1,v2,v3]) w:=by
 rw [Array.getD_eq_getD_getElem?] at h1 h2 h3;simp only [results,h]
 simp [Sem.run_bind,Result.andThen,h1,h2,h3,l1,l2,l3,asAddr]
theorem Ur {W:World} {b i:Nat} {cur:Array Value} {t:TypeId} (h:W.heap[b]?=some (.cells cur t (0,0))):W.frozen? ⟨b,i,none⟩=false:=by simp [World.frozen?,h]
theorem ZW (W:World) (cs:List Value) (t:TypeId):∀j u,cs[j]?=some u→(W.alloc (.cells cs.toArray t)).cell? ((⟨W.heap.size,0,none⟩:Addr).add j)=some u:=fun j u h=>by
 rw [show (⟨W.heap.size,0,none⟩:Addr).add j=⟨W.heap.size,j,none⟩ by simp [Addr.add];try omega,cell_of_row _ _ _ _ _ _ (World.alloc_heap_new W _)]
 simpa using h
theorem zap (l:List UInt8) (w:World) (hl:l.length≤4096) (ht:Z4 w) :
  Calls Tryz.prog 94 #[.string (za l)] w fun e w'=>∃(r:Value),e=.returned (.tuple #[r,.int .i64 (scanS l (l.length+1) 1 0).2.1,.int .i64 (scanS l (l.length+1) 1 0).2.2]) ∧
   w'.ownsRow w.heap.size 142 5 r (scanS l (l.length+1) 1 0).1.length (zA (scanS l (l.length+1) 1 0).1)∧Below w.heap.size w w':=by
 obtain ⟨i0,hi,a7,aX,a4⟩:=info_parts ut;have HT:Hid (Z4 w):=ht;have bd:(za l).size=l.length:=rfl;clear ht;refine (callsIn_wide (n:=7)).1 ?_;refine callsIn_of_wp_marks Tryz.func94 rfl trivial ?_ rfl;simp only [Tryz.ntmps94,List.size_toArray,List.length_cons,List.length_nil,Nat.reduceAdd,Nat.reduceSub,Array.replicate_succ,Array.replicate_zero,List.push_toArray,List.append_toArray,List.nil_append,List.cons_append]
 gi_wp2_with (refine ⟨trivial,?_⟩;gi_at_call 114;refine (qG _ _).mono ?_;rintro e w' ⟨rfl,rfl⟩)
 refine ur rfl (enters_of Tryz.func138 (by kernel_rfl) rfl) (fun r0 hst hpe htm hpa has hbo=>?_)
 obtain ⟨N,hN⟩:∃N,N=w.heap.size:=⟨_,rfl⟩;obtain ⟨W0,H⟩:∃W0,W0=((((w.alloc (.cells #[.slice none 0 0] 133)).alloc (.cells #[.int .i64 0] 3)).alloc (.cells #[.int .i64 0] 25)).alloc (.cells #[.slice none 0 0] 133)).alloc (.cells #[.string (za l)] 9):=⟨_,rfl⟩;have ay:W0.heap.size=N+5:=by rw [H,hN];simp
 have aT:Below N w W0:=by
  rw [H,hN];exact (((((Below.refl _ w).alloc (Nat.le_refl _) _).alloc (by simp) _).alloc (by simp;omega) _).alloc (by simp;omega) _).alloc (by simp;omega) _
 have b0:Boxed W0 N 133 (.slice none 0 0):=by rw [H,hN];exact ((((Boxed.new w _ _).alloc _).alloc _).alloc _).alloc _
 have b1:Boxed W0 (N+1) 3 (.int .i64 0):=by
  have h:=(((Boxed.new (w.alloc (.cells #[.slice none 0 0] 133)) 3 (.int .i64 0)).alloc (.cells #[.int .i64 0] 25)).alloc (.cells #[.slice none 0 0] 133)).alloc (.cells #[.string (za l)] 9);rw [World.size_alloc] at h;rw [H,hN];exact h
 have b2:Boxed W0 (N+2) 25 (.int .i64 0):=by
  have h:=((Boxed.new ((w.alloc (.cells #[.slice none 0 0] 133)).alloc (.cells #[.int .i64 0] 3)) 25 (.int .i64 0)).alloc (.cells #[.slice none 0 0] 133)).alloc (.cells #[.string (za l)] 9);rw [World.size_alloc,World.size_alloc] at h;rw [H,hN];exact h
 have b3:Boxed W0 (N+3) 133 (.slice none 0 0):=by
  have h:=(Boxed.new (((w.alloc (.cells #[.slice none 0 0] 133)).alloc (.cells #[.int .i64 0] 3)).alloc (.cells #[.int .i64 0] 25)) 133 (.slice none 0 0)).alloc (.cells #[.string (za l)] 9);rw [World.size_alloc,World.size_alloc,World.size_alloc] at h;rw [H,hN];exact h
 have b4:Boxed W0 (N+4) 9 (.string (za l)):=by
  have h:=Boxed.new ((((w.alloc (.cells #[.slice none 0 0] 133)).alloc (.cells #[.int .i64 0] 3)).alloc (.cells #[.int .i64 0] 25)).alloc (.cells #[.slice none 0 0] 133)) 9 (.string (za l));rw [World.size_alloc,World.size_alloc,World.size_alloc,World.size_alloc] at h;rw [H,hN];exact h
 rw [←H,ay];simp only [Nat.add_assoc,Nat.reduceAdd] at htm ⊢;rw [←hN] at htm ⊢;have HN:Hid (N=w.heap.size):=hN;clear hN H
 have ao:((W0.alloc (.deferred (some []))).alloc (.loop r0)).heap[N+5]?=some (.deferred (some [])):=by
  rw [←ay];exact (Below.heap_alloc _ _ _ (by simp)).trans (World.alloc_heap_new W0 _)
 have aq:((W0.alloc (.deferred (some []))).alloc (.loop r0)).heap[N+6]?=some (.loop r0):=by
  have:=World.alloc_heap_new (W0.alloc (.deferred (some []))) (.loop r0)
  rwa [World.size_alloc,ay] at this
 have aB:yy N w l (.loop r0) [] 1 0 ((W0.alloc (.deferred (some []))).alloc (.loop r0)) :=
  ⟨⟨.slice none 0 0,(b3.alloc _).alloc _,World.ownsRow_nil _ _ _ _⟩,(b0.alloc _).alloc _,(b1.alloc _).alloc _,(b2.alloc _).alloc _,(b4.alloc _).alloc _,((aT.alloc (by omega) _).alloc (by simp;omega) _),ao,aq,rfl,rfl⟩
 obtain ⟨rE,aS⟩:∃rE:Loop,rE={ r0 with state:=.done,pending:=some .ret }:=⟨_,rfl⟩;have aw:Hid (rE={ r0 with state:=.done,pending:=some .ret }):=aS;clear aS;refine (Uq (N+6) (N+4) l hl (yy N w l (.loop r0)) (U0 N w l (.loop rE)) ?hJc ?hJg ?hE ?hY _ aB).mono ?_
 case hJc =>
  intro y line a W O U;exact ⟨U.sb.cell,HT.out.below U.bel (by rw [HN.out];exact Nat.le_refl _),(xx y 1 0 U.unto O (Nat.zero_le _) (by omega)).2.2⟩
 case hJg =>
  intro y line a W W' h hB;exact h.grow hB
 case hE =>
  intro y line a A o O U he ha;have ae:yy N w l (.loop r0) y line a (A.alloc o):=U.grow ((Below.refl _ A).alloc (Nat.le_refl _) o);have D:=ae.loop;refine ⟨_,_,_,_,run_yield D (by rw [hpa];rfl),roundIn_of_wpIn trivial ?_⟩
  rw [has,hbo,htm,hpa];obtain ⟨T,hT⟩:∃T,T=tkT l line a:=⟨_,rfl⟩;rw [←hT];have an:Hid (T=tkT l line a):=hT;clear hT;obtain ⟨Y,ar⟩:∃Y,Y=(zv l a).e:=⟨_,rfl⟩;rw [←ar] at he ⊢;have a2:Hid (Y=(zv l a).e):=ar;clear ar;have bp:((Y:Int) != 0)=true:=by rw [bne_iff_ne];omega
  unfold qE
  simp only [List.zip_toArray,List.zip_cons_cons,List.zip_nil_right]
  gi_wp2
  have af:yy N w l (.loop r0) y line a ((A.alloc o).alloc (.cells #[.int .i64 T.k,.string (za T.s),.int .i64 T.n,.int .i64 T.line,.int .i64 T.at0] 142)):=ae.grow ((Below.refl _ _).alloc (Nat.le_refl _) _);have am:=af.loop;refine ⟨_,run_beginRound (P:=Tryz.prog) am hst,?_⟩;have E:=af.put (ob':=.loop { r0 with state:=.busy }) rfl;have av:N+6<A.heap.size:=(Array.getElem?_eq_some_iff.1 U.loop).1
  have V:(((A.alloc o).alloc (.cells #[.int .i64 T.k,.string (za T.s),.int .i64 T.n,.int .i64 T.line,.int .i64 T.at0] 142)).putObj (N+6) (.loop { r0 with state:=.busy })).heap[A.heap.size+1]?=some (.cells #[.int .i64 T.k,.string (za T.s),.int .i64 T.n,.int .i64 T.line,.int .i64 T.at0] 142 (0,0)):=by
   rw [World.putObj_heap_other (by omega)]
   have:=World.alloc_heap_new (A.alloc o) (.cells #[.int .i64 T.k,.string (za T.s),.int .i64 T.n,.int .i64 T.line,.int .i64 T.at0] 142)
   rwa [World.size_alloc] at this
  generalize ((A.alloc o).alloc (.cells #[.int .i64 T.k,.string (za T.s),.int .i64 T.n,.int .i64 T.line,.int .i64 T.at0] 142)).putObj (N+6) (.loop { r0 with state:=.busy })=Wb at E V ⊢;obtain ⟨M,hM⟩:∃M,M=A.heap.size:=⟨_,rfl⟩;rw [←hM] at V av ⊢;clear hM am af D ae U;have ax:Hid (yy N w l (.loop { r0 with state:=.busy }) y line a Wb):=E;have k0:=E.r0;have k1:=E.r1;have k2:=E.r2;have aK:=k0.cell;have aZ:=k0.frozen;have aL:=k1.cell;have a9:=k1.frozen;have aD:=k2.cell;have a3:=k2.frozen;clear E;have q4:Wb.cell? ⟨M+1,4,none⟩=some (.int .i64 T.at0):=by rw [cell_of_row _ _ _ _ _ _ V];rfl
  have s0:Wb.setCell ⟨N,0,none⟩ (.slice none 0 0)=Wb:=yK k0 rfl;have a6:(Wb.setCell ⟨N+1,0,none⟩ (.int .i64 T.at0)).cell? ⟨N+2,0,none⟩=some (.int .i64 0):=(k2.kept (grownBy_setCell' Wb (N+1) _) (by simp)).cell
  have bf:(Wb.setCell ⟨N+1,0,none⟩ (.int .i64 T.at0)).frozen? ⟨N+2,0,none⟩=false:=(k2.kept (grownBy_setCell' Wb (N+1) _) (by simp)).frozen
  have HF:Hid (∀aI,roundPost Tryz.prog (N+6) (fun e W'=>e=Ending.returned (Value.bool false)∧U0 N w l (Obj.loop rE) y line a W') Exit.ret aI ((Wb.setCell ⟨N+1,0,none⟩ (.int .i64 T.at0)).setCell ⟨N+2,0,none⟩ (.int .i64 Y)).drew):=by
   intro aI;have J:=ax.out
   have ah:∀{k:Nat} {ob:Obj},k≠N+1→k≠N+2→Wb.heap[k]?=some ob→((Wb.setCell ⟨N+1,0,none⟩ (.int .i64 T.at0)).setCell ⟨N+2,0,none⟩ (.int .i64 Y)).drew.heap[k]?=some ob:=fun {k ob} L I h3=>by
    show ((Wb.setCell ⟨N+1,0,none⟩ (.int .i64 T.at0)).setCell ⟨N+2,0,none⟩ (.int .i64 Y)).heap[k]?=some ob
    rw [Below.heap_setCell _ _ _ _ (by simpa using I),Below.heap_setCell _ _ _ _ (by simpa using L),h3]
   have m1:Boxed ((Wb.setCell ⟨N+1,0,none⟩ (.int .i64 T.at0)).setCell ⟨N+2,0,none⟩ (.int .i64 Y)).drew (N+1) 3 (.int .i64 T.at0):=by
    have h:=(k1.set (.int .i64 T.at0)).kept (grownBy_setCell' (Wb.setCell ⟨N+1,0,none⟩ (.int .i64 T.at0)) (N+2) (.int .i64 Y)) (by simp)
    exact h
   have m2:Boxed ((Wb.setCell ⟨N+1,0,none⟩ (.int .i64 T.at0)).setCell ⟨N+2,0,none⟩ (.int .i64 Y)).drew (N+2) 25 (.int .i64 Y):=(k2.kept (grownBy_setCell' Wb (N+1) (.int .i64 T.at0)) (by simp)).set (.int .i64 Y)
   have hB:Below N Wb ((Wb.setCell ⟨N+1,0,none⟩ (.int .i64 T.at0)).setCell ⟨N+2,0,none⟩ (.int .i64 Y)).drew:=(((Below.refl N Wb).setCell (p:=⟨N+1,0,none⟩) (by simp) _).setCell (p:=⟨N+2,0,none⟩) (by simp) _).trans (⟨rfl,rfl,rfl,Nat.le_refl _,fun _ _=>rfl⟩:Below N ((Wb.setCell ⟨N+1,0,none⟩ (.int .i64 T.at0)).setCell ⟨N+2,0,none⟩ (.int .i64 Y)) ((Wb.setCell ⟨N+1,0,none⟩ (.int .i64 T.at0)).setCell ⟨N+2,0,none⟩ (.int .i64 Y)).drew)
   have m0:=ah (k:=N) (by omega) (by omega) J.r0
   have md:=ah (k:=N+5) (by omega) (by omega) J.defd
   have ml:=ah (k:=N+6) (by omega) (by omega) J.loop
   generalize ((Wb.setCell ⟨N+1,0,none⟩ (.int .i64 T.at0)).setCell ⟨N+2,0,none⟩ (.int .i64 Y)).drew=X at m0 m1 m2 md ml hB ⊢;have hX:=(Array.getElem?_eq_some_iff.1 ml).1;refine ⟨_,_,run_endRound (some .ret) ml,rfl,?_⟩
   have aA:({ { r0 with state:=.busy } with state:=if (some Code.ret).isNone then .ready else .done,pending:=some .ret }:Loop)=rE:=by
    rw [aw.out];rfl
   rw [aA];have e1:T.at0=zn l a:=by rw [an.out];rfl
   rw [e1] at m1;rw [a2.out] at m2;have put:∀{k:Nat} {ob:Obj},k≠N+6→X.heap[k]?=some ob→(X.putObj (N+6) (.loop rE)).heap[k]?=some ob:=fun {k ob} L I=>(World.putObj_heap_other L).trans I
   exact ⟨put (by omega) m0,put (by omega) m1,put (by omega) m2,(J.bel.trans hB).trans ((Below.refl N X).grown (grownBy_putObj' X _ _) (by omega) (fun k e=>by cases e;omega)),put (by omega) md,World.putObj_heap_same hX,J.unto⟩
  gi_wp2
  gi_region
  all_goals (gi_wp2;exact HF.out _)
 case hY =>
  intro y line a A o O U he ha;have ae:yy N w l (.loop r0) y line a (A.alloc o):=U.grow ((Below.refl _ A).alloc (Nat.le_refl _) o);have bo:=xx y 1 0 U.unto O (Nat.zero_le _) (by omega)
  have D:=ae.loop;refine ⟨_,_,_,_,run_yield D (by rw [hpa];rfl),roundIn_of_wpIn trivial ?_⟩
  rw [has,hbo,htm,hpa];obtain ⟨T,hT⟩:∃T,T=tkT l line a:=⟨_,rfl⟩;rw [←hT];have an:Hid (T=tkT l line a):=hT;clear hT
  unfold qE
  simp only [List.zip_toArray,List.zip_cons_cons,List.zip_nil_right]
  gi_wp2
  have af:yy N w l (.loop r0) y line a ((A.alloc o).alloc (.cells #[.int .i64 T.k,.string (za T.s),.int .i64 T.n,.int .i64 T.line,.int .i64 T.at0] 142)):=ae.grow ((Below.refl _ _).alloc (Nat.le_refl _) _);have am:=af.loop;refine ⟨_,run_beginRound (P:=Tryz.prog) am hst,?_⟩;have E:=af.put (ob':=.loop { r0 with state:=.busy }) rfl;have av:N+6<A.heap.size:=(Array.getElem?_eq_some_iff.1 U.loop).1
  have ho:(((A.alloc o).alloc (.cells #[.int .i64 T.k,.string (za T.s),.int .i64 T.n,.int .i64 T.line,.int .i64 T.at0] 142)).putObj (N+6) (.loop { r0 with state:=.busy })).heap[A.heap.size]?=some o:=by
   rw [World.putObj_heap_other (by omega),Below.heap_alloc _ _ _ (by simp)]
   exact World.alloc_heap_new A _
  have V:(((A.alloc o).alloc (.cells #[.int .i64 T.k,.string (za T.s),.int .i64 T.n,.int .i64 T.line,.int .i64 T.at0] 142)).putObj (N+6) (.loop { r0 with state:=.busy })).heap[A.heap.size+1]?=some (.cells #[.int .i64 T.k,.string (za T.s),.int .i64 T.n,.int .i64 T.line,.int .i64 T.at0] 142 (0,0)):=by
   rw [World.putObj_heap_other (by omega)]
   have:=World.alloc_heap_new (A.alloc o) (.cells #[.int .i64 T.k,.string (za T.s),.int .i64 T.n,.int .i64 T.line,.int .i64 T.at0] 142)
   rwa [World.size_alloc] at this
  have ab:∀k,k≠N+6→k<A.heap.size→∀ob,A.heap[k]?=some ob→(((A.alloc o).alloc (.cells #[.int .i64 T.k,.string (za T.s),.int .i64 T.n,.int .i64 T.line,.int .i64 T.at0] 142)).putObj (N+6) (.loop { r0 with state:=.busy })).heap[k]?=some ob:=fun k L I ob h3=>by
   rw [World.putObj_heap_other L,Below.heap_alloc _ _ _ (by simp;omega),Below.heap_alloc _ _ _ I,h3]
  have aC:(((A.alloc o).alloc (.cells #[.int .i64 T.k,.string (za T.s),.int .i64 T.n,.int .i64 T.line,.int .i64 T.at0] 142)).putObj (N+6) (.loop { r0 with state:=.busy })).heap.size=A.heap.size+2:=by
   simp
  generalize ((A.alloc o).alloc (.cells #[.int .i64 T.k,.string (za T.s),.int .i64 T.n,.int .i64 T.line,.int .i64 T.at0] 142)).putObj (N+6) (.loop { r0 with state:=.busy })=Wb at E ho V aC ab ⊢
  have a5:T.s.length≤281474976710656:=by
   rw [an.out];have L:=Qz (l.drop (a+ZL (l.drop a)));rw [List.length_drop] at L;have I:(tkT l line a).s=(zF (l.drop (a+ZL (l.drop a)))).s:=rfl;rw [I];omega
  obtain ⟨ra,aH,aN⟩:=U.all;have aJ:Boxed Wb (N+3) 133 ra:=ab _ (by omega) (by omega) _ aH
  have au:∀g,some g=ra.ownBlock→g<A.heap.size:=fun g e=>(aN.lt g e.symm).2
  obtain ⟨M,hM⟩:∃M,M=A.heap.size:=⟨_,rfl⟩;rw [←hM] at ho V aC av au ⊢;have ba:Hid (Boxed Wb (N+3) 133 ra):=aJ;have aV:Hid (∀g,some g=ra.ownBlock→g<M):=au;have HM:Hid (M=A.heap.size):=hM;clear hM am af D ae ab aJ au aH aN U;have ax:Hid (yy N w l (.loop { r0 with state:=.busy }) y line a Wb):=E;clear E;have q1:Wb.cell? ⟨M+1,1,none⟩=some (.string (za T.s)):=by rw [cell_of_row _ _ _ _ _ _ V];rfl
  have bh:y.length≤5000:=by omega
  gi_wp2_with (first
   | (refine ⟨trivial,?_⟩;gi_at_call 25;refine (callsIn_wide.2 (qF _ _ a5)).mono ?_;rintro e w3 ⟨rfl,ak⟩
      have ad:w3.heap[M+1]?=some (.cells #[.int .i64 T.k,.string (za T.s),.int .i64 T.n,.int .i64 T.line,.int .i64 T.at0] 142 (0,0)):=(ak.block _ (by omega)).trans V
      have q2:w3.setCell ⟨M+1,1,none⟩ (.string (za T.s))=w3:=yK ad rfl;have q3:=Ur (i:=1) ad;have c0:w3.cell? ⟨M+1,0,none⟩=some (.int .i64 T.k):=by rw [cell_of_row _ _ _ _ _ _ ad];rfl
      have c1:w3.cell? ⟨M+1,1,none⟩=some (.string (za T.s)):=by rw [cell_of_row _ _ _ _ _ _ ad];rfl
      have c2:w3.cell? ⟨M+1,2,none⟩=some (.int .i64 T.n):=by rw [cell_of_row _ _ _ _ _ _ ad];rfl
      have c3:w3.cell? ⟨M+1,3,none⟩=some (.int .i64 T.line):=by rw [cell_of_row _ _ _ _ _ _ ad];rfl
      have c4:w3.cell? ⟨M+1,4,none⟩=some (.int .i64 T.at0):=by rw [cell_of_row _ _ _ _ _ _ ad];rfl
      have aP:Hid (yy N w l (.loop { r0 with state:=.busy }) y line a w3):=ax.out.grow ak;obtain ⟨r,aj,R⟩:=aP.out.all;have bj:=aj.cell;have br:M+2≤w3.heap.size:=by rw [←aC];exact ak.size
      have aW:w3.heap[M]?=some o:=(ak.block _ (by omega)).trans ho)
   | (gi_at_builtin;refine wpListIn_append_own _ rfl _ _ 133 rfl (N+7) 142 i0 _ 5 48 Tryz.underlying133 hi a7 aX a4 rfl (by decide) _ _ _ rfl (R.alloc _) ⟨w3.heap.size,0,none⟩ 1 1 [.int .i64 T.k,.string (za T.s),.int .i64 T.n,.int .i64 T.line,.int .i64 T.at0] rfl rfl (ZW _ _ _) (by simp [Value.oneCell']) (by unfold maxLen;omega) (by omega) (by simp;omega) ?_;intro v' w4 Z al _;obtain ⟨K,z,rfl⟩:=ownsRow_succ Z;have Q:=(aj.alloc (.cells #[.int .i64 T.k,.string (za T.s),.int .i64 T.n,.int .i64 T.line,.int .i64 T.at0] 142)).kept al (aj.not_row (by decide) R);have be:=Q.cell;have bq:=Q.frozen))
  have aE:(w3.alloc (.cells #[.int .i64 T.k,.string (za T.s),.int .i64 T.n,.int .i64 T.line,.int .i64 T.at0] 142)).grownBy w4 r.ownBlock:=al
  have bc:r=ra:=by
   have L:Boxed w3 (N+3) 133 ra:=(ak.block _ (by omega)).trans ba.out
   have I:=aj.cell.symm.trans L.cell;exact Option.some.inj I
  have ah:∀k,k<w3.heap.size→some k≠r.ownBlock→w4.heap[k]?=w3.heap[k]?:=fun k hk hn=>(aE.block k (by simp;omega) hn).trans (Below.heap_alloc _ _ _ hk)
  have G:∀{k:Nat} {ob:Obj},k<N+7→k≠N+3→w3.heap[k]?=some ob→(w4.setCell ⟨N+3,0,none⟩ (.slice (some ⟨K,0,none⟩) (y.length+1) z)).heap[k]?=some ob:=fun {k ob} L I h3=>by
   rw [Below.heap_setCell _ _ _ _ (by simpa using I),ah k (Array.getElem?_eq_some_iff.1 h3).1 (fun e=>by have:=(R.lt _ e.symm).1;omega),h3]
  have aF:yy N w l (.loop { r0 with state:=.busy }) (y++[T]) (Zc l line a) (zn l a+(zv l a).sz) (w4.setCell ⟨N+3,0,none⟩ (.slice (some ⟨K,0,none⟩) (y.length+1) z)):=by
   have J:=aP.out;refine ⟨⟨_,Q.set _,?_⟩,G (by omega) (by omega) J.r0,G (by omega) (by omega) J.r1,G (by omega) (by omega) J.r2,G (by omega) (by omega) J.sb,?_,G (by omega) (by omega) J.defd,G (by omega) (by omega) J.loop,?_⟩
   ·rw [List.length_append,YV]
    exact Z.kept (grownBy_setCell' w4 (N+3) _) (.inr (Q.not_row (by decide) Z).symm)
   ·exact J.bel.trans ((((Below.refl N w3).alloc (by omega) _).grown aE (by simp;omega) (fun j ej=>by have:=(R.lt j ej).1;omega)).setCell (p:=⟨N+3,0,none⟩) (by simp) _)
   ·rw [an.out];exact Xf he J.unto
  have a0:=aF.loop
  have a8:(w4.setCell ⟨N+3,0,none⟩ (.slice (some ⟨K,0,none⟩) (y.length+1) z)).heap[M]?=some o:=by
   rw [Below.heap_setCell _ _ _ _ (by simp;omega),ah M (by omega) (fun e=>by rw [bc] at e;have:=aV.out _ e;omega),aW]
  refine ⟨_,_,run_endRound none a0,rfl,?_⟩
  have aA:({ { r0 with state:=.busy } with state:=if (none:Option Code).isNone then .ready else .done,pending:=none }:Loop)=r0:=by
   cases r0;simp_all
  rw [aA];refine ⟨aF.put rfl,?_⟩;rw [World.putObj_heap_other (by omega)]
  exact a8
 rintro e W2 ⟨⟨u,rfl⟩,aQ⟩;rcases aQ with ⟨y,line,a,O,he,hE⟩ | ⟨y,line,a,O,he,hk,U⟩
 ·have D:=hE.loop
  have aY:rE.state≠.busy:=by rw [aw.out];simp
  have aG:rE.pending=some .ret:=by rw [aw.out]
  refine ⟨rE.pending,_,run_endLoop (P:=Tryz.prog) D aY,?_⟩;rw [aG];have hX:=(Array.getElem?_eq_some_iff.1 D).1
  have aa:U0 N w l (.loop { rE with state:=.exhausted }) y line a (W2.putObj (N+6) (.loop { rE with state:=.exhausted })):=by
   have put:∀{k:Nat} {ob:Obj},k≠N+6→W2.heap[k]?=some ob→(W2.putObj (N+6) (.loop { rE with state:=.exhausted })).heap[k]?=some ob:=fun {k ob} L I=>(World.putObj_heap_other L).trans I
   exact ⟨put (by omega) hE.r0,put (by omega) hE.r1,put (by omega) hE.r2,hE.bel.trans ((Below.refl N W2).grown (grownBy_putObj' W2 _ _) (by omega) (fun k e=>by cases e;omega)),put (by omega) hE.defd,World.putObj_heap_same hX,hE.unto⟩
  rw [aG] at aa
  dsimp only
  generalize W2.putObj (N+6) (.loop { rE with state:=.exhausted,pending:=some .ret })=W4 at aa ⊢;have ai:Hid (U0 N w l (.loop { rE with state:=.exhausted,pending:=some .ret }) y line a W4):=aa;have aK:=aa.r0.cell;have aL:=aa.r1.cell;have aD:=aa.r2.cell;clear aa hE D aB aq ao
  gi_wp2
  have hK:=ai.out.defd;have aM:=(Array.getElem?_eq_some_iff.1 hK).1;refine ⟨by simp,.inl ⟨_,_,rfl,run_takeDeferred hK,?_⟩⟩
  have put:∀{k:Nat} {ob:Obj} (ob':Obj),k≠N+5→W4.heap[k]?=some ob→(W4.putObj (N+5) ob').heap[k]?=some ob:=fun {k ob} ob' L I=>(World.putObj_heap_other L).trans I
  have m0:Boxed (W4.putObj (N+5) (.deferred none)) N 133 (.slice none 0 0):=put _ (by omega) ai.out.r0
  have m1:Boxed (W4.putObj (N+5) (.deferred none)) (N+1) 3 (.int .i64 (zn l a)):=put _ (by omega) ai.out.r1
  have m2:Boxed (W4.putObj (N+5) (.deferred none)) (N+2) 25 (.int .i64 (zv l a).e):=put _ (by omega) ai.out.r2
  have c0:=m0.cell;have c1:=m1.cell;have c2:=m2.cell;refine ⟨_,Yi rfl _ _ _ rfl rfl rfl (by simp [go_sem,c0];rfl) (by simp [go_sem,c1];rfl) (by simp [go_sem,c2];rfl),.slice none 0 0,?_⟩
  rw [Vg he y 1 0 (l.length+1) ai.out.unto O (Nat.zero_le _) (by omega),←HN.out]
  exact ⟨rfl,World.ownsRow_nil _ _ _ _,ai.out.bel.trans ((Below.refl N W4).grown (grownBy_putObj' W4 _ _) (by omega) (fun k e=>by cases e;omega))⟩
 ·have D:=U.loop
  refine ⟨r0.pending,_,run_endLoop (P:=Tryz.prog) D (by rw [hst];simp),?_⟩
  have ag:=U.put (ob':=.loop { r0 with state:=.exhausted }) rfl;generalize W2.putObj (N+6) (.loop { r0 with state:=.exhausted })=W4 at ag ⊢;rw [hpe];show Exit.inBlock 0 _ Exit.normal _ W4
  have az:Hid (yy N w l (Obj.loop { r0 with state:=.exhausted }) (y++[tkT l line a]) (Zc l line a) (zn l a+(zv l a).sz) W4):=ag;obtain ⟨r,aj,R⟩:=ag.all;have ap:=R;rw [List.length_append] at ap;obtain ⟨K,z,rfl⟩:=ownsRow_succ ap;clear ap;have k0:=ag.r0;have k1:=ag.r1;have k2:=ag.r2;have aK:=k0.cell;have aZ:=k0.frozen;have aL:=k1.cell;have a9:=k1.frozen;have aD:=k2.cell;have a3:=k2.frozen;have a6:=aj.cell;have j1:=k1.kept (grownBy_setCell' W4 N (.slice (some ⟨K,0,none⟩) (y.length+1) z)) (by simp)
  have j2:=k2.kept (grownBy_setCell' W4 N (.slice (some ⟨K,0,none⟩) (y.length+1) z)) (by simp)
  have bi:=j1.cell;have bl:=j1.frozen;have bn:=j2.cell;have bm:=j2.frozen;have bk:(W4.setCell ⟨N,0,none⟩ (.slice (some ⟨K,0,none⟩) (y.length+1) z)).setCell ⟨N+1,0,none⟩ (.int .i64 0)=W4.setCell ⟨N,0,none⟩ (.slice (some ⟨K,0,none⟩) (y.length+1) z):=yK j1 rfl;have bg:(W4.setCell ⟨N,0,none⟩ (.slice (some ⟨K,0,none⟩) (y.length+1) z)).setCell ⟨N+2,0,none⟩ (.int .i64 0)=W4.setCell ⟨N,0,none⟩ (.slice (some ⟨K,0,none⟩) (y.length+1) z):=yK j2 rfl;have bs:=(k0.set (.slice (some ⟨K,0,none⟩) (y.length+1) z)).cell;clear ag U D aB aq ao
  gi_wp2
  have a1:=az.out.unto
  have hK:(W4.setCell ⟨N,0,none⟩ (.slice (some ⟨K,0,none⟩) (y.length+1) z)).heap[N+5]?=some (.deferred (some [])):=by
   rw [Below.heap_setCell _ _ _ _ (by simp)];exact az.out.defd
  have aM:=(Array.getElem?_eq_some_iff.1 hK).1;have aO:=k0.set (.slice (some ⟨K,0,none⟩) (y.length+1) z);have Q:=R.kept (grownBy_setCell' W4 N (.slice (some ⟨K,0,none⟩) (y.length+1) z)) (.inr (k0.not_row (by decide) R).symm)
  have aR:Below N w (W4.setCell ⟨N,0,none⟩ (.slice (some ⟨K,0,none⟩) (y.length+1) z)):=az.out.bel.trans ((Below.refl N W4).setCell (p:=⟨N,0,none⟩) (Nat.le_refl _) _);generalize W4.setCell ⟨N,0,none⟩ (.slice (some ⟨K,0,none⟩) (y.length+1) z)=W5 at hK aM aO Q aR j1 j2 ⊢;refine ⟨by simp,.inl ⟨_,_,rfl,run_takeDeferred hK,?_⟩⟩
  have put:∀{k:Nat} {ob:Obj} (ob':Obj),k≠N+5→W5.heap[k]?=some ob→(W5.putObj (N+5) ob').heap[k]?=some ob:=fun {k ob} ob' L I=>(World.putObj_heap_other L).trans I
  have m0:Boxed (W5.putObj (N+5) (.deferred none)) N 133 (.slice (some ⟨K,0,none⟩) (y.length+1) z):=put _ (by omega) aO
  have m1:Boxed (W5.putObj (N+5) (.deferred none)) (N+1) 3 (.int .i64 0):=put _ (by omega) j1
  have m2:Boxed (W5.putObj (N+5) (.deferred none)) (N+2) 25 (.int .i64 0):=put _ (by omega) j2
  have c0:=m0.cell;have c1:=m1.cell;have c2:=m2.cell;refine ⟨_,Yi rfl _ _ _ rfl rfl rfl (by simp [go_sem,c0];rfl) (by simp [go_sem,c1];rfl) (by simp [go_sem,c2];rfl),.slice (some ⟨K,0,none⟩) (y.length+1) z,?_⟩
  obtain ⟨bb,a',L,I,h3⟩:=Xg a1;have aU:(zv l a').k=0:=by rw [←hk];exact (congrArg Tk.k h3).symm
  rw [Vh I aU y 1 0 (l.length+1) L O (Nat.zero_le _) (by omega),←HN.out,←h3,List.length_append]
  rw [List.length_append] at Q;exact ⟨rfl,ownsRow_putObj (qH Q (show N≤N+7 by omega)) _ hK rfl,aR.trans ((Below.refl N W5).grown (grownBy_putObj' W5 _ _) (by omega) (fun k e=>by cases e;omega))⟩
end Go.Proofs.YtmbofhpmockmbaaGreatDoor
