import Derived.Test.YtpejpbbdgblbeaaGreatDoorMC4
import Derived.Sort.QuietIn
namespace Go.Proofs.YtpejpbbdgblbeaaGreatDoor
open Go.RowKit Go.Shelf
set_option maxHeartbeats 16000000
set_option maxRecDepth 100000
attribute [local go_sem] Oper.semAt_some
theorem qN (l:List UInt8) (w:World) (hl:l.length≤281474976710656) :
  Calls Tryz.prog 89 #[.string (zb l)] w fun e w'=>e=.returned (.string (zb l))∧Below w.heap.size w w':=by
 go_enter Tryz.func89,Tryz.ntmps89
 go_wp2_with fail
 refine (Tryz.stringslite_Clone (zb l) w hl).mono ?_;rintro e o ⟨rfl,h⟩;have y:Hid (Below w.heap.size w o):=h;clear h;go_wp2
 go_ret
 exact ⟨rfl,y.out⟩
theorem zdt (l:List UInt8) (w:World) :
  CallsIn Fence.wide 6 Tryz.prog 88 #[.string (zb l)] w fun e w'=>e=.returned (.func (.func 126) #[] #[.pointer (some ⟨w.heap.size,0,none⟩)])∧w'=w.alloc (.cells #[.string (zb l)] 9):=by
 refine callsIn_of_wp Tryz.func88 rfl trivial ?_ rfl;simp only [Tryz.ntmps88,List.size_toArray,List.length_cons,List.length_nil,Nat.reduceAdd,Nat.reduceSub,Array.replicate_succ,Array.replicate_zero,List.push_toArray,List.append_toArray,List.nil_append,List.cons_append]
 gi_wp2
 go_ret
 exact ⟨rfl,rfl⟩
theorem zas {n:Nat} {P:Program} {g:Operand} {ps:Array Tmp} {assign body:Code} {Q:Exit→Act→World→Prop} {a:Act} {w:World} {gf:Nat} {lb:Array Value}
  (hg:a.eval g=.func (.func gf) #[] lb) (eg:∀args w,(callFunc gf args).run P w=.ok (.enter gf args) w)
  (h:∀r0:Loop,r0.state=.ready→r0.pending=none→r0.tmps=a.tmps→r0.params=ps→r0.assign=assign→r0.body=body →
   CallsIn Fence.wide (n-1) P gf (#[.func (.yield (w.heap.size+1)) #[] #[]]++lb) ((w.alloc (.deferred (some []))).alloc (.loop r0)) (rangePost Fence.wide n P (w.heap.size+1) Q { a with defers:=[{ target:=.collected w.heap.size,args:=#[] }]++a.defers })) :
  (Code.rangeFunc g ps assign body).wpIn Fence.wide n P Q a w :=
 wpIn_rangeFunc fun fn _=>⟨_,_,_,{ target:=.fn (.func gf) lb,args:=#[.func (.yield (w.heap.size+1)) #[] #[]] },_,gf,_,_,run_enterLoop_outer fn a.tmps ps assign body,
  by simp only [resolve,hg];simp [go_sem];rfl,fun _ _=>trivial,by simp [invoke,go_sem,eg];rfl,(fun hd=>by cases hd),h _ rfl rfl rfl rfl rfl rfl⟩
theorem zeK:(Tryz.prog.info? 66).map (fun i=>(i.zero,i.size,i.bytes))=some (some (.agg #[.int .i64 0,.string ⟨#[]⟩,.int .i64 0,.int .i64 0,.int .i64 0]),5,48):=by kernel_rfl
structure YT (N:Nat) (w:World) (l:List UInt8) (ob:Obj) (pre:List Tk) (line a:Nat) (W:World):Prop where
 all:∃r,Boxed W (N+3) 58 r∧W.ownsRow (N+7) 66 5 r pre.length (ZG pre)
 r0:Boxed W N 58 (.slice none 0 0)
 r1:Boxed W (N+1) 3 (.int .i64 0)
 r2:Boxed W (N+2) 26 (.int .i64 0)
 sb:Boxed W (N+4) 9 (.string (zb l))
 bel:Below N w W
 defd:W.heap[N+5]?=some (.deferred (some []))
 loop:W.heap[N+6]?=some ob
 unto:xV l 1 0 pre line a
structure zcS (N:Nat) (w:World) (l:List UInt8) (ob:Obj) (pre:List Tk) (line a:Nat) (W:World):Prop where
 r0:Boxed W N 58 (.slice none 0 0)
 r1:Boxed W (N+1) 3 (.int .i64 (zP l a))
 r2:Boxed W (N+2) 26 (.int .i64 (zQ l a).e)
 bel:Below N w W
 defd:W.heap[N+5]?=some (.deferred (some []))
 loop:W.heap[N+6]?=some ob
 unto:xV l 1 0 pre line a
theorem Uo {w w':World} {B e sz n:Nat} {v:Value} {xs:List Value} (h:w.ownsRow B e sz v n xs) (hk:∀(k:Nat) (o:Array Value),w.heap[k]?=some (Obj.cells o e (0,0))→w'.heap[k]?=w.heap[k]?):w'.ownsRow B e sz v n xs:=by
 obtain ⟨G,y⟩:=h;refine ⟨G,?_⟩;rcases y with y | ⟨g,z,o,H,D,A,r⟩
 ·exact .inl y
 ·exact .inr ⟨g,z,o,H,D,(hk g o A).trans A,r⟩
theorem zdu {w:World} {B B' e sz n:Nat} {v:Value} {xs:List Value} (h:w.ownsRow B e sz v n xs) (hB:B'≤B):w.ownsRow B' e sz v n xs:=by
 obtain ⟨D,o⟩:=h;refine ⟨D,?_⟩;rcases o with o | ⟨g,y,z,G,A,r⟩
 ·exact .inl o
 ·exact .inr ⟨g,y,z,G,Nat.le_trans hB A,r⟩
theorem YT.grow {N:Nat} {w:World} {l:List UInt8} {ob:Obj} {pre:List Tk} {line a:Nat} {W W':World} (h:YT N w l ob pre line a W) (hB:Below W.heap.size W W'):YT N w l ob pre line a W':=by
 have Q:N+6<W.heap.size:=(Array.getElem?_eq_some_iff.1 h.loop).1;obtain ⟨⟨r,H,z⟩,O,J,I,L,A,hd,G,D⟩:=h;have y:∀{k:Nat} {o:Obj},W.heap[k]?=some o→W'.heap[k]?=some o:=fun {k o} hk=>(hB.block k (Array.getElem?_eq_some_iff.1 hk).1).trans hk
 exact ⟨⟨r,y H,Uo z (fun k cur hk=>hB.block k (Array.getElem?_eq_some_iff.1 hk).1)⟩,y O,y J,y I,y L,A.trans (hB.mono (by omega)),y hd,y G,D⟩
theorem YT.put {N:Nat} {w:World} {l:List UInt8} {ob ob':Obj} {pre:List Tk} {line a:Nat} {W:World} (h:YT N w l ob pre line a W) (hob:ob.isCells=false):YT N w l ob' pre line a (W.putObj (N+6) ob'):=by
 have z:N+6<W.heap.size:=(Array.getElem?_eq_some_iff.1 h.loop).1;have G:=h.loop;obtain ⟨⟨r,H,y⟩,O,J,I,L,A,hd,_,D⟩:=h;have o:∀{k:Nat},k≠N+6→(W.putObj (N+6) ob').heap[k]?=W.heap[k]?:=fun {k} hk=>World.putObj_heap_other hk
 refine ⟨⟨r,(o (by omega)).trans H,Uo y (fun k cur hk=>o (fun e=>?_))⟩,(o (by omega)).trans O,(o (by omega)).trans J,(o (by omega)).trans I,(o (by omega)).trans L,?_,(o (by omega)).trans hd,World.putObj_heap_same z,D⟩
 ·rw [e,G] at hk;cases hk;cases hob
 ·exact A.trans ((Below.refl N W).grown (grownBy_putObj' W _ _) (by omega) (fun k e=>by cases e;omega))
theorem Y9 {W:World} {b i:Nat} {v:Value} {cur:Array Value} {t:TypeId} {fr:Nat × Nat} (h:W.heap[b]?=some (.cells cur t fr)) (hv:cur[i]?=some v):W.setCell ⟨b,i,none⟩ v=W:=by
 have e:W.heap.modify b (fun | .cells c elem frozen=>.cells (if (none:Option Unit).isSome then c else c.setIfInBounds i v) elem frozen | o=>o)=W.heap:=by
  apply Array.ext_getElem?
  intro k
  by_cases hk:k=b
  ·subst hk
   rw [Array.getElem?_modify,h]
   have:cur.setIfInBounds i v=cur:=by
    apply Array.ext_getElem?
    intro j;rw [Array.getElem?_setIfInBounds]
    by_cases hj:i=j
    ·subst hj
     rw [hv]
     have:=(Array.getElem?_eq_some_iff.1 hv).1
     simp [this]
    ·simp [hj]
   simp [this]
  ·rw [Array.getElem?_modify,if_neg (by omega)]
 cases W
 unfold World.setCell
 simp only at e ⊢
 congr 1
theorem xW {fn:Func} {p q s:Tmp} {t1 t2 t3:TypeId} (h:fn.results=#[.cell p t1,.cell q t2,.cell s t3]) (tmps:Array Value) (P:Program) (w:World) {a1 a2 a3:Addr} {v1 v2 v3:Value}
  (h1:tmps.getD p undef=.pointer (some a1)) (h2:tmps.getD q undef=.pointer (some a2)) (h3:tmps.getD s undef=.pointer (some a3))
  (l1:(loadVar t1 a1).run P w=.ok v1 w) (l2:(loadVar t2 a2).run P w=.ok v2 w) (l3:(loadVar t3 a3).run P w=.ok v3 w) :
  (results fn tmps).run P w=.ok (.tuple #[v1,v2,v3]) w:=by
 rw [Array.getD_eq_getD_getElem?] at h1 h2 h3;simp only [results,h]
 simp [Sem.run_bind,Result.andThen,h1,h2,h3,l1,l2,l3,asAddr]
theorem zbC {W:World} {b i:Nat} {cur:Array Value} {t:TypeId} (h:W.heap[b]?=some (.cells cur t (0,0))):W.frozen? ⟨b,i,none⟩=false:=by simp [World.frozen?,h]
theorem ZQ (W:World) (cs:List Value) (t:TypeId):∀j u,cs[j]?=some u→(W.alloc (.cells cs.toArray t)).cell? ((⟨W.heap.size,0,none⟩:Addr).add j)=some u:=fun j u h=>by
 rw [show (⟨W.heap.size,0,none⟩:Addr).add j=⟨W.heap.size,j,none⟩ by simp [Addr.add];try omega,cell_of_row _ _ _ _ _ _ (World.alloc_heap_new W _)]
 simpa using h
theorem zgh (l:List UInt8) (w:World) (hl:l.length≤4096) (ht:yI w) :
  Calls Tryz.prog 47 #[.string (zb l)] w fun e w'=>∃(r:Value),e=.returned (.tuple #[r,.int .i64 (scanS l (l.length+1) 1 0).2.1,.int .i64 (scanS l (l.length+1) 1 0).2.2]) ∧
   w'.ownsRow w.heap.size 66 5 r (scanS l (l.length+1) 1 0).1.length (ZG (scanS l (l.length+1) 1 0).1)∧Below w.heap.size w w':=by
 obtain ⟨i0,hi,aZ,bb,aU⟩:=info_parts zeK;have HT:Hid (yI w):=ht;have be:(zb l).size=l.length:=rfl;clear ht;refine (callsIn_wide (n:=7)).1 ?_;refine callsIn_of_wp_marks Tryz.func47 rfl trivial ?_ rfl;simp only [Tryz.ntmps47,List.size_toArray,List.length_cons,List.length_nil,Nat.reduceAdd,Nat.reduceSub,Array.replicate_succ,Array.replicate_zero,List.push_toArray,List.append_toArray,List.nil_append,List.cons_append]
 gi_wp2_with (refine ⟨trivial,?_⟩;gi_at_call 88;refine (zdt _ _).mono ?_;rintro e w' ⟨rfl,rfl⟩)
 refine zas rfl (enters_of Tryz.func126 (by kernel_rfl) rfl) (fun r0 hst hpe htm hpa has hbo=>?_)
 obtain ⟨N,hN⟩:∃N,N=w.heap.size:=⟨_,rfl⟩;obtain ⟨W0,I⟩:∃W0,W0=((((w.alloc (.cells #[.slice none 0 0] 58)).alloc (.cells #[.int .i64 0] 3)).alloc (.cells #[.int .i64 0] 26)).alloc (.cells #[.slice none 0 0] 58)).alloc (.cells #[.string (zb l)] 9):=⟨_,rfl⟩;have av:W0.heap.size=N+5:=by rw [I,hN];simp
 have a6:Below N w W0:=by
  rw [I,hN];exact (((((Below.refl _ w).alloc (Nat.le_refl _) _).alloc (by simp) _).alloc (by simp;omega) _).alloc (by simp;omega) _).alloc (by simp;omega) _
 have b0:Boxed W0 N 58 (.slice none 0 0):=by rw [I,hN];exact ((((Boxed.new w _ _).alloc _).alloc _).alloc _).alloc _
 have b1:Boxed W0 (N+1) 3 (.int .i64 0):=by
  have h:=(((Boxed.new (w.alloc (.cells #[.slice none 0 0] 58)) 3 (.int .i64 0)).alloc (.cells #[.int .i64 0] 26)).alloc (.cells #[.slice none 0 0] 58)).alloc (.cells #[.string (zb l)] 9);rw [World.size_alloc] at h;rw [I,hN];exact h
 have b2:Boxed W0 (N+2) 26 (.int .i64 0):=by
  have h:=((Boxed.new ((w.alloc (.cells #[.slice none 0 0] 58)).alloc (.cells #[.int .i64 0] 3)) 26 (.int .i64 0)).alloc (.cells #[.slice none 0 0] 58)).alloc (.cells #[.string (zb l)] 9);rw [World.size_alloc,World.size_alloc] at h;rw [I,hN];exact h
 have b3:Boxed W0 (N+3) 58 (.slice none 0 0):=by
  have h:=(Boxed.new (((w.alloc (.cells #[.slice none 0 0] 58)).alloc (.cells #[.int .i64 0] 3)).alloc (.cells #[.int .i64 0] 26)) 58 (.slice none 0 0)).alloc (.cells #[.string (zb l)] 9);rw [World.size_alloc,World.size_alloc,World.size_alloc] at h;rw [I,hN];exact h
 have b4:Boxed W0 (N+4) 9 (.string (zb l)):=by
  have h:=Boxed.new ((((w.alloc (.cells #[.slice none 0 0] 58)).alloc (.cells #[.int .i64 0] 3)).alloc (.cells #[.int .i64 0] 26)).alloc (.cells #[.slice none 0 0] 58)) 9 (.string (zb l));rw [World.size_alloc,World.size_alloc,World.size_alloc,World.size_alloc] at h;rw [I,hN];exact h
 rw [←I,av];simp only [Nat.add_assoc,Nat.reduceAdd] at htm ⊢;rw [←hN] at htm ⊢;have HN:Hid (N=w.heap.size):=hN;clear hN I
 have ap:((W0.alloc (.deferred (some []))).alloc (.loop r0)).heap[N+5]?=some (.deferred (some [])):=by
  rw [←av];exact (Below.heap_alloc _ _ _ (by simp)).trans (World.alloc_heap_new W0 _)
 have ar:((W0.alloc (.deferred (some []))).alloc (.loop r0)).heap[N+6]?=some (.loop r0):=by
  have:=World.alloc_heap_new (W0.alloc (.deferred (some []))) (.loop r0)
  rwa [World.size_alloc,av] at this
 have aB:YT N w l (.loop r0) [] 1 0 ((W0.alloc (.deferred (some []))).alloc (.loop r0)) :=
  ⟨⟨.slice none 0 0,(b3.alloc _).alloc _,World.ownsRow_nil _ _ _ _⟩,(b0.alloc _).alloc _,(b1.alloc _).alloc _,(b2.alloc _).alloc _,(b4.alloc _).alloc _,((a6.alloc (by omega) _).alloc (by simp;omega) _),ap,ar,rfl,rfl⟩
 obtain ⟨rE,aT⟩:∃rE:Loop,rE={ r0 with state:=.done,pending:=some .ret }:=⟨_,rfl⟩;have az:Hid (rE={ r0 with state:=.done,pending:=some .ret }):=aT;clear aT;refine (zbB (N+6) (N+4) l hl (YT N w l (.loop r0)) (zcS N w l (.loop rE)) ?hJc ?hJg ?hE ?hY _ aB).mono ?_
 case hJc =>
  intro y line a W Z Y;exact ⟨Y.sb.cell,HT.out.below Y.bel (by rw [HN.out];exact Nat.le_refl _),(v8 y 1 0 Y.unto Z (Nat.zero_le _) (by omega)).2.2⟩
 case hJg =>
  intro y line a W W' h hB;exact h.grow hB
 case hE =>
  intro y line a A o Z Y he ha;have ad:YT N w l (.loop r0) y line a (A.alloc o):=Y.grow ((Below.refl _ A).alloc (Nat.le_refl _) o);have D:=ad.loop;refine ⟨_,_,_,_,run_yield D (by rw [hpa];rfl),roundIn_of_wpIn trivial ?_⟩
  rw [has,hbo,htm,hpa];obtain ⟨T,hT⟩:∃T,T=tkT l line a:=⟨_,rfl⟩;rw [←hT];have ao:Hid (T=tkT l line a):=hT;clear hT;obtain ⟨er,aq⟩:∃er,er=(zQ l a).e:=⟨_,rfl⟩;rw [←aq] at he ⊢;have aV:Hid (er=(zQ l a).e):=aq;clear aq;have bq:((er:Int) != 0)=true:=by rw [bne_iff_ne];omega
  unfold zds
  simp only [List.zip_toArray,List.zip_cons_cons,List.zip_nil_right]
  gi_wp2
  have ah:YT N w l (.loop r0) y line a ((A.alloc o).alloc (.cells #[.int .i64 T.k,.string (zb T.s),.int .i64 T.n,.int .i64 T.line,.int .i64 T.at0] 66)):=ad.grow ((Below.refl _ _).alloc (Nat.le_refl _) _);have al:=ah.loop;refine ⟨_,run_beginRound (P:=Tryz.prog) al hst,?_⟩;have G:=ah.put (ob':=.loop { r0 with state:=.busy }) rfl;have ay:N+6<A.heap.size:=(Array.getElem?_eq_some_iff.1 Y.loop).1
  have U:(((A.alloc o).alloc (.cells #[.int .i64 T.k,.string (zb T.s),.int .i64 T.n,.int .i64 T.line,.int .i64 T.at0] 66)).putObj (N+6) (.loop { r0 with state:=.busy })).heap[A.heap.size+1]?=some (.cells #[.int .i64 T.k,.string (zb T.s),.int .i64 T.n,.int .i64 T.line,.int .i64 T.at0] 66 (0,0)):=by
   rw [World.putObj_heap_other (by omega)]
   have:=World.alloc_heap_new (A.alloc o) (.cells #[.int .i64 T.k,.string (zb T.s),.int .i64 T.n,.int .i64 T.line,.int .i64 T.at0] 66)
   rwa [World.size_alloc] at this
  generalize ((A.alloc o).alloc (.cells #[.int .i64 T.k,.string (zb T.s),.int .i64 T.n,.int .i64 T.line,.int .i64 T.at0] 66)).putObj (N+6) (.loop { r0 with state:=.busy })=Wb at G U ⊢;obtain ⟨M,hM⟩:∃M,M=A.heap.size:=⟨_,rfl⟩;rw [←hM] at U ay ⊢;clear hM al ah D ad Y;have aw:Hid (YT N w l (.loop { r0 with state:=.busy }) y line a Wb):=G;have k0:=G.r0;have k1:=G.r1;have k2:=G.r2;have aG:=k0.cell;have aW:=k0.frozen;have aN:=k1.cell;have a5:=k1.frozen;have aF:=k2.cell;have bd:=k2.frozen;clear G;have q4:Wb.cell? ⟨M+1,4,none⟩=some (.int .i64 T.at0):=by rw [cell_of_row _ _ _ _ _ _ U];rfl
  have s0:Wb.setCell ⟨N,0,none⟩ (.slice none 0 0)=Wb:=Y9 k0 rfl;have aY:(Wb.setCell ⟨N+1,0,none⟩ (.int .i64 T.at0)).cell? ⟨N+2,0,none⟩=some (.int .i64 0):=(k2.kept (grownBy_setCell' Wb (N+1) _) (by simp)).cell
  have bk:(Wb.setCell ⟨N+1,0,none⟩ (.int .i64 T.at0)).frozen? ⟨N+2,0,none⟩=false:=(k2.kept (grownBy_setCell' Wb (N+1) _) (by simp)).frozen
  have HF:Hid (∀aM,roundPost Tryz.prog (N+6) (fun e W'=>e=Ending.returned (Value.bool false)∧zcS N w l (Obj.loop rE) y line a W') Exit.ret aM ((Wb.setCell ⟨N+1,0,none⟩ (.int .i64 T.at0)).setCell ⟨N+2,0,none⟩ (.int .i64 er)).drew):=by
   intro aM;have J:=aw.out
   have aj:∀{k:Nat} {ob:Obj},k≠N+1→k≠N+2→Wb.heap[k]?=some ob→((Wb.setCell ⟨N+1,0,none⟩ (.int .i64 T.at0)).setCell ⟨N+2,0,none⟩ (.int .i64 er)).drew.heap[k]?=some ob:=fun {k ob} Q L h3=>by
    show ((Wb.setCell ⟨N+1,0,none⟩ (.int .i64 T.at0)).setCell ⟨N+2,0,none⟩ (.int .i64 er)).heap[k]?=some ob
    rw [Below.heap_setCell _ _ _ _ (by simpa using L),Below.heap_setCell _ _ _ _ (by simpa using Q),h3]
   have m1:Boxed ((Wb.setCell ⟨N+1,0,none⟩ (.int .i64 T.at0)).setCell ⟨N+2,0,none⟩ (.int .i64 er)).drew (N+1) 3 (.int .i64 T.at0):=by
    have h:=(k1.set (.int .i64 T.at0)).kept (grownBy_setCell' (Wb.setCell ⟨N+1,0,none⟩ (.int .i64 T.at0)) (N+2) (.int .i64 er)) (by simp)
    exact h
   have m2:Boxed ((Wb.setCell ⟨N+1,0,none⟩ (.int .i64 T.at0)).setCell ⟨N+2,0,none⟩ (.int .i64 er)).drew (N+2) 26 (.int .i64 er):=(k2.kept (grownBy_setCell' Wb (N+1) (.int .i64 T.at0)) (by simp)).set (.int .i64 er)
   have hB:Below N Wb ((Wb.setCell ⟨N+1,0,none⟩ (.int .i64 T.at0)).setCell ⟨N+2,0,none⟩ (.int .i64 er)).drew:=(((Below.refl N Wb).setCell (p:=⟨N+1,0,none⟩) (by simp) _).setCell (p:=⟨N+2,0,none⟩) (by simp) _).trans (⟨rfl,rfl,rfl,Nat.le_refl _,fun _ _=>rfl⟩:Below N ((Wb.setCell ⟨N+1,0,none⟩ (.int .i64 T.at0)).setCell ⟨N+2,0,none⟩ (.int .i64 er)) ((Wb.setCell ⟨N+1,0,none⟩ (.int .i64 T.at0)).setCell ⟨N+2,0,none⟩ (.int .i64 er)).drew)
   have m0:=aj (k:=N) (by omega) (by omega) J.r0
   have md:=aj (k:=N+5) (by omega) (by omega) J.defd
   have ml:=aj (k:=N+6) (by omega) (by omega) J.loop
   generalize ((Wb.setCell ⟨N+1,0,none⟩ (.int .i64 T.at0)).setCell ⟨N+2,0,none⟩ (.int .i64 er)).drew=X at m0 m1 m2 md ml hB ⊢;have hX:=(Array.getElem?_eq_some_iff.1 ml).1;refine ⟨_,_,run_endRound (some .ret) ml,rfl,?_⟩
   have aA:({ { r0 with state:=.busy } with state:=if (some Code.ret).isNone then .ready else .done,pending:=some .ret }:Loop)=rE:=by
    rw [az.out];rfl
   rw [aA];have e1:T.at0=zP l a:=by rw [ao.out];rfl
   rw [e1] at m1;rw [aV.out] at m2;have put:∀{k:Nat} {ob:Obj},k≠N+6→X.heap[k]?=some ob→(X.putObj (N+6) (.loop rE)).heap[k]?=some ob:=fun {k ob} Q L=>(World.putObj_heap_other Q).trans L
   exact ⟨put (by omega) m0,put (by omega) m1,put (by omega) m2,(J.bel.trans hB).trans ((Below.refl N X).grown (grownBy_putObj' X _ _) (by omega) (fun k e=>by cases e;omega)),put (by omega) md,World.putObj_heap_same hX,J.unto⟩
  gi_wp2
  gi_region
  all_goals (gi_wp2;exact HF.out _)
 case hY =>
  intro y line a A o Z Y he ha;have ad:YT N w l (.loop r0) y line a (A.alloc o):=Y.grow ((Below.refl _ A).alloc (Nat.le_refl _) o);have bu:=v8 y 1 0 Y.unto Z (Nat.zero_le _) (by omega)
  have D:=ad.loop;refine ⟨_,_,_,_,run_yield D (by rw [hpa];rfl),roundIn_of_wpIn trivial ?_⟩
  rw [has,hbo,htm,hpa];obtain ⟨T,hT⟩:∃T,T=tkT l line a:=⟨_,rfl⟩;rw [←hT];have ao:Hid (T=tkT l line a):=hT;clear hT
  unfold zds
  simp only [List.zip_toArray,List.zip_cons_cons,List.zip_nil_right]
  gi_wp2
  have ah:YT N w l (.loop r0) y line a ((A.alloc o).alloc (.cells #[.int .i64 T.k,.string (zb T.s),.int .i64 T.n,.int .i64 T.line,.int .i64 T.at0] 66)):=ad.grow ((Below.refl _ _).alloc (Nat.le_refl _) _);have al:=ah.loop;refine ⟨_,run_beginRound (P:=Tryz.prog) al hst,?_⟩;have G:=ah.put (ob':=.loop { r0 with state:=.busy }) rfl;have ay:N+6<A.heap.size:=(Array.getElem?_eq_some_iff.1 Y.loop).1
  have ho:(((A.alloc o).alloc (.cells #[.int .i64 T.k,.string (zb T.s),.int .i64 T.n,.int .i64 T.line,.int .i64 T.at0] 66)).putObj (N+6) (.loop { r0 with state:=.busy })).heap[A.heap.size]?=some o:=by
   rw [World.putObj_heap_other (by omega),Below.heap_alloc _ _ _ (by simp)]
   exact World.alloc_heap_new A _
  have U:(((A.alloc o).alloc (.cells #[.int .i64 T.k,.string (zb T.s),.int .i64 T.n,.int .i64 T.line,.int .i64 T.at0] 66)).putObj (N+6) (.loop { r0 with state:=.busy })).heap[A.heap.size+1]?=some (.cells #[.int .i64 T.k,.string (zb T.s),.int .i64 T.n,.int .i64 T.line,.int .i64 T.at0] 66 (0,0)):=by
   rw [World.putObj_heap_other (by omega)]
   have:=World.alloc_heap_new (A.alloc o) (.cells #[.int .i64 T.k,.string (zb T.s),.int .i64 T.n,.int .i64 T.line,.int .i64 T.at0] 66)
   rwa [World.size_alloc] at this
  have ae:∀k,k≠N+6→k<A.heap.size→∀ob,A.heap[k]?=some ob→(((A.alloc o).alloc (.cells #[.int .i64 T.k,.string (zb T.s),.int .i64 T.n,.int .i64 T.line,.int .i64 T.at0] 66)).putObj (N+6) (.loop { r0 with state:=.busy })).heap[k]?=some ob:=fun k Q L ob h3=>by
   rw [World.putObj_heap_other Q,Below.heap_alloc _ _ _ (by simp;omega),Below.heap_alloc _ _ _ L,h3]
  have aC:(((A.alloc o).alloc (.cells #[.int .i64 T.k,.string (zb T.s),.int .i64 T.n,.int .i64 T.line,.int .i64 T.at0] 66)).putObj (N+6) (.loop { r0 with state:=.busy })).heap.size=A.heap.size+2:=by
   simp
  generalize ((A.alloc o).alloc (.cells #[.int .i64 T.k,.string (zb T.s),.int .i64 T.n,.int .i64 T.line,.int .i64 T.at0] 66)).putObj (N+6) (.loop { r0 with state:=.busy })=Wb at G ho U aC ae ⊢
  have a8:T.s.length≤281474976710656:=by
   rw [ao.out];have Q:=zeH (l.drop (a+Z4 (l.drop a)));rw [List.length_drop] at Q;have L:(tkT l line a).s=(Zc (l.drop (a+Z4 (l.drop a)))).s:=rfl;rw [L];omega
  obtain ⟨ra,aO,aH⟩:=Y.all;have aP:Boxed Wb (N+3) 58 ra:=ae _ (by omega) (by omega) _ aO
  have au:∀g,some g=ra.ownBlock→g<A.heap.size:=fun g e=>(aH.lt g e.symm).2
  obtain ⟨M,hM⟩:∃M,M=A.heap.size:=⟨_,rfl⟩;rw [←hM] at ho U aC ay au ⊢;have aX:Hid (Boxed Wb (N+3) 58 ra):=aP;have a1:Hid (∀g,some g=ra.ownBlock→g<M):=au;have HM:Hid (M=A.heap.size):=hM;clear hM al ah D ad ae aP au aO aH Y;have aw:Hid (YT N w l (.loop { r0 with state:=.busy }) y line a Wb):=G;clear G;have q1:Wb.cell? ⟨M+1,1,none⟩=some (.string (zb T.s)):=by rw [cell_of_row _ _ _ _ _ _ U];rfl
  have bh:y.length≤5000:=by omega
  gi_wp2_with (first
   | (refine ⟨trivial,?_⟩;gi_at_call 89;refine (callsIn_wide.2 (qN _ _ a8)).mono ?_;rintro e w3 ⟨rfl,am⟩
      have ag:w3.heap[M+1]?=some (.cells #[.int .i64 T.k,.string (zb T.s),.int .i64 T.n,.int .i64 T.line,.int .i64 T.at0] 66 (0,0)):=(am.block _ (by omega)).trans U
      have q2:w3.setCell ⟨M+1,1,none⟩ (.string (zb T.s))=w3:=Y9 ag rfl;have q3:=zbC (i:=1) ag;have c0:w3.cell? ⟨M+1,0,none⟩=some (.int .i64 T.k):=by rw [cell_of_row _ _ _ _ _ _ ag];rfl
      have c1:w3.cell? ⟨M+1,1,none⟩=some (.string (zb T.s)):=by rw [cell_of_row _ _ _ _ _ _ ag];rfl
      have c2:w3.cell? ⟨M+1,2,none⟩=some (.int .i64 T.n):=by rw [cell_of_row _ _ _ _ _ _ ag];rfl
      have c3:w3.cell? ⟨M+1,3,none⟩=some (.int .i64 T.line):=by rw [cell_of_row _ _ _ _ _ _ ag];rfl
      have c4:w3.cell? ⟨M+1,4,none⟩=some (.int .i64 T.at0):=by rw [cell_of_row _ _ _ _ _ _ ag];rfl
      have aQ:Hid (YT N w l (.loop { r0 with state:=.busy }) y line a w3):=aw.out.grow am;obtain ⟨r,ai,R⟩:=aQ.out.all;have bj:=ai.cell;have bg:M+2≤w3.heap.size:=by rw [←aC];exact am.size
      have a4:w3.heap[M]?=some o:=(am.block _ (by omega)).trans ho)
   | (gi_at_builtin;refine wpListIn_append_own _ rfl _ _ 58 rfl (N+7) 66 i0 _ 5 48 Tryz.underlying58 hi aZ bb aU rfl (by decide) _ _ _ rfl (R.alloc _) ⟨w3.heap.size,0,none⟩ 1 1 [.int .i64 T.k,.string (zb T.s),.int .i64 T.n,.int .i64 T.line,.int .i64 T.at0] rfl rfl (ZQ _ _ _) (by simp [Value.oneCell']) (by unfold maxLen;omega) (by omega) (by simp;omega) ?_;intro v' w4 aa an _;obtain ⟨O,z,rfl⟩:=ownsRow_succ aa;have V:=(ai.alloc (.cells #[.int .i64 T.k,.string (zb T.s),.int .i64 T.n,.int .i64 T.line,.int .i64 T.at0] 66)).kept an (ai.not_row (by decide) R);have bt:=V.cell;have bm:=V.frozen))
  have aR:(w3.alloc (.cells #[.int .i64 T.k,.string (zb T.s),.int .i64 T.n,.int .i64 T.line,.int .i64 T.at0] 66)).grownBy w4 r.ownBlock:=an
  have bc:r=ra:=by
   have Q:Boxed w3 (N+3) 58 ra:=(am.block _ (by omega)).trans aX.out
   have L:=ai.cell.symm.trans Q.cell;exact Option.some.inj L
  have aj:∀k,k<w3.heap.size→some k≠r.ownBlock→w4.heap[k]?=w3.heap[k]?:=fun k hk hn=>(aR.block k (by simp;omega) hn).trans (Below.heap_alloc _ _ _ hk)
  have H:∀{k:Nat} {ob:Obj},k<N+7→k≠N+3→w3.heap[k]?=some ob→(w4.setCell ⟨N+3,0,none⟩ (.slice (some ⟨O,0,none⟩) (y.length+1) z)).heap[k]?=some ob:=fun {k ob} Q L h3=>by
   rw [Below.heap_setCell _ _ _ _ (by simpa using L),aj k (Array.getElem?_eq_some_iff.1 h3).1 (fun e=>by have:=(R.lt _ e.symm).1;omega),h3]
  have aE:YT N w l (.loop { r0 with state:=.busy }) (y++[T]) (yj l line a) (zP l a+(zQ l a).sz) (w4.setCell ⟨N+3,0,none⟩ (.slice (some ⟨O,0,none⟩) (y.length+1) z)):=by
   have J:=aQ.out;refine ⟨⟨_,V.set _,?_⟩,H (by omega) (by omega) J.r0,H (by omega) (by omega) J.r1,H (by omega) (by omega) J.r2,H (by omega) (by omega) J.sb,?_,H (by omega) (by omega) J.defd,H (by omega) (by omega) J.loop,?_⟩
   ·rw [List.length_append,Ul]
    exact aa.kept (grownBy_setCell' w4 (N+3) _) (.inr (V.not_row (by decide) aa).symm)
   ·exact J.bel.trans ((((Below.refl N w3).alloc (by omega) _).grown aR (by simp;omega) (fun j ej=>by have:=(R.lt j ej).1;omega)).setCell (p:=⟨N+3,0,none⟩) (by simp) _)
   ·rw [ao.out];exact uy he J.unto
  have ba:=aE.loop
  have a7:(w4.setCell ⟨N+3,0,none⟩ (.slice (some ⟨O,0,none⟩) (y.length+1) z)).heap[M]?=some o:=by
   rw [Below.heap_setCell _ _ _ _ (by simp;omega),aj M (by omega) (fun e=>by rw [bc] at e;have:=a1.out _ e;omega),a4]
  refine ⟨_,_,run_endRound none ba,rfl,?_⟩
  have aA:({ { r0 with state:=.busy } with state:=if (none:Option Code).isNone then .ready else .done,pending:=none }:Loop)=r0:=by
   cases r0;simp_all
  rw [aA];refine ⟨aE.put rfl,?_⟩;rw [World.putObj_heap_other (by omega)]
  exact a7
 rintro e W2 ⟨⟨u,rfl⟩,aI⟩;rcases aI with ⟨y,line,a,Z,he,hE⟩ | ⟨y,line,a,Z,he,hk,Y⟩
 ·have D:=hE.loop
  have a2:rE.state≠.busy:=by rw [az.out];simp
  have aJ:rE.pending=some .ret:=by rw [az.out]
  refine ⟨rE.pending,_,run_endLoop (P:=Tryz.prog) D a2,?_⟩;rw [aJ];have hX:=(Array.getElem?_eq_some_iff.1 D).1
  have af:zcS N w l (.loop { rE with state:=.exhausted }) y line a (W2.putObj (N+6) (.loop { rE with state:=.exhausted })):=by
   have put:∀{k:Nat} {ob:Obj},k≠N+6→W2.heap[k]?=some ob→(W2.putObj (N+6) (.loop { rE with state:=.exhausted })).heap[k]?=some ob:=fun {k ob} Q L=>(World.putObj_heap_other Q).trans L
   exact ⟨put (by omega) hE.r0,put (by omega) hE.r1,put (by omega) hE.r2,hE.bel.trans ((Below.refl N W2).grown (grownBy_putObj' W2 _ _) (by omega) (fun k e=>by cases e;omega)),put (by omega) hE.defd,World.putObj_heap_same hX,hE.unto⟩
  rw [aJ] at af
  dsimp only
  generalize W2.putObj (N+6) (.loop { rE with state:=.exhausted,pending:=some .ret })=W4 at af ⊢;have ak:Hid (zcS N w l (.loop { rE with state:=.exhausted,pending:=some .ret }) y line a W4):=af;have aG:=af.r0.cell;have aN:=af.r1.cell;have aF:=af.r2.cell;clear af hE D aB ar ap
  gi_wp2
  have hK:=ak.out.defd;have aL:=(Array.getElem?_eq_some_iff.1 hK).1;refine ⟨by simp,.inl ⟨_,_,rfl,run_takeDeferred hK,?_⟩⟩
  have put:∀{k:Nat} {ob:Obj} (ob':Obj),k≠N+5→W4.heap[k]?=some ob→(W4.putObj (N+5) ob').heap[k]?=some ob:=fun {k ob} ob' Q L=>(World.putObj_heap_other Q).trans L
  have m0:Boxed (W4.putObj (N+5) (.deferred none)) N 58 (.slice none 0 0):=put _ (by omega) ak.out.r0
  have m1:Boxed (W4.putObj (N+5) (.deferred none)) (N+1) 3 (.int .i64 (zP l a)):=put _ (by omega) ak.out.r1
  have m2:Boxed (W4.putObj (N+5) (.deferred none)) (N+2) 26 (.int .i64 (zQ l a).e):=put _ (by omega) ak.out.r2
  have c0:=m0.cell;have c1:=m1.cell;have c2:=m2.cell;refine ⟨_,xW rfl _ _ _ rfl rfl rfl (by simp [go_sem,c0];rfl) (by simp [go_sem,c1];rfl) (by simp [go_sem,c2];rfl),.slice none 0 0,?_⟩
  rw [qL he y 1 0 (l.length+1) ak.out.unto Z (Nat.zero_le _) (by omega),←HN.out]
  exact ⟨rfl,World.ownsRow_nil _ _ _ _,ak.out.bel.trans ((Below.refl N W4).grown (grownBy_putObj' W4 _ _) (by omega) (fun k e=>by cases e;omega))⟩
 ·have D:=Y.loop
  refine ⟨r0.pending,_,run_endLoop (P:=Tryz.prog) D (by rw [hst];simp),?_⟩
  have ab:=Y.put (ob':=.loop { r0 with state:=.exhausted }) rfl;generalize W2.putObj (N+6) (.loop { r0 with state:=.exhausted })=W4 at ab ⊢;rw [hpe];show Exit.inBlock 0 _ Exit.normal _ W4
  have ax:Hid (YT N w l (Obj.loop { r0 with state:=.exhausted }) (y++[tkT l line a]) (yj l line a) (zP l a+(zQ l a).sz) W4):=ab;obtain ⟨r,ai,R⟩:=ab.all;have aD:=R;rw [List.length_append] at aD;obtain ⟨O,z,rfl⟩:=ownsRow_succ aD;clear aD;have k0:=ab.r0;have k1:=ab.r1;have k2:=ab.r2;have aG:=k0.cell;have aW:=k0.frozen;have aN:=k1.cell;have a5:=k1.frozen;have aF:=k2.cell;have bd:=k2.frozen;have aY:=ai.cell;have j1:=k1.kept (grownBy_setCell' W4 N (.slice (some ⟨O,0,none⟩) (y.length+1) z)) (by simp)
  have j2:=k2.kept (grownBy_setCell' W4 N (.slice (some ⟨O,0,none⟩) (y.length+1) z)) (by simp)
  have br:=j1.cell;have bn:=j1.frozen;have bi:=j2.cell;have bp:=j2.frozen;have bf:(W4.setCell ⟨N,0,none⟩ (.slice (some ⟨O,0,none⟩) (y.length+1) z)).setCell ⟨N+1,0,none⟩ (.int .i64 0)=W4.setCell ⟨N,0,none⟩ (.slice (some ⟨O,0,none⟩) (y.length+1) z):=Y9 j1 rfl;have bo:(W4.setCell ⟨N,0,none⟩ (.slice (some ⟨O,0,none⟩) (y.length+1) z)).setCell ⟨N+2,0,none⟩ (.int .i64 0)=W4.setCell ⟨N,0,none⟩ (.slice (some ⟨O,0,none⟩) (y.length+1) z):=Y9 j2 rfl;have bs:=(k0.set (.slice (some ⟨O,0,none⟩) (y.length+1) z)).cell;clear ab Y D aB ar ap
  gi_wp2
  have a9:=ax.out.unto
  have hK:(W4.setCell ⟨N,0,none⟩ (.slice (some ⟨O,0,none⟩) (y.length+1) z)).heap[N+5]?=some (.deferred (some [])):=by
   rw [Below.heap_setCell _ _ _ _ (by simp)];exact ax.out.defd
  have aL:=(Array.getElem?_eq_some_iff.1 hK).1;have aS:=k0.set (.slice (some ⟨O,0,none⟩) (y.length+1) z);have V:=R.kept (grownBy_setCell' W4 N (.slice (some ⟨O,0,none⟩) (y.length+1) z)) (.inr (k0.not_row (by decide) R).symm)
  have aK:Below N w (W4.setCell ⟨N,0,none⟩ (.slice (some ⟨O,0,none⟩) (y.length+1) z)):=ax.out.bel.trans ((Below.refl N W4).setCell (p:=⟨N,0,none⟩) (Nat.le_refl _) _);generalize W4.setCell ⟨N,0,none⟩ (.slice (some ⟨O,0,none⟩) (y.length+1) z)=W5 at hK aL aS V aK j1 j2 ⊢;refine ⟨by simp,.inl ⟨_,_,rfl,run_takeDeferred hK,?_⟩⟩
  have put:∀{k:Nat} {ob:Obj} (ob':Obj),k≠N+5→W5.heap[k]?=some ob→(W5.putObj (N+5) ob').heap[k]?=some ob:=fun {k ob} ob' Q L=>(World.putObj_heap_other Q).trans L
  have m0:Boxed (W5.putObj (N+5) (.deferred none)) N 58 (.slice (some ⟨O,0,none⟩) (y.length+1) z):=put _ (by omega) aS
  have m1:Boxed (W5.putObj (N+5) (.deferred none)) (N+1) 3 (.int .i64 0):=put _ (by omega) j1
  have m2:Boxed (W5.putObj (N+5) (.deferred none)) (N+2) 26 (.int .i64 0):=put _ (by omega) j2
  have c0:=m0.cell;have c1:=m1.cell;have c2:=m2.cell;refine ⟨_,xW rfl _ _ _ rfl rfl rfl (by simp [go_sem,c0];rfl) (by simp [go_sem,c1];rfl) (by simp [go_sem,c2];rfl),.slice (some ⟨O,0,none⟩) (y.length+1) z,?_⟩
  obtain ⟨a3,a',Q,L,h3⟩:=uz a9;have a0:(zQ l a').k=0:=by rw [←hk];exact (congrArg Tk.k h3).symm
  rw [qM L a0 y 1 0 (l.length+1) Q Z (Nat.zero_le _) (by omega),←HN.out,←h3,List.length_append]
  rw [List.length_append] at V;exact ⟨rfl,ownsRow_putObj (zdu V (show N≤N+7 by omega)) _ hK rfl,aK.trans ((Below.refl N W5).grown (grownBy_putObj' W5 _ _) (by omega) (fun k e=>by cases e;omega))⟩
end Go.Proofs.YtpejpbbdgblbeaaGreatDoor
