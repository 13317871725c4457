import Derived.Test.YtpejpbbdgblbeaaGreatDoorMC4
import Derived.Sort.QuietIn
namespace Go.Proofs.YtpejpbbdgblbeaaGreatDoor
open Go.RowKit Go.Shelf
set_option maxHeartbeats 16000000
set_option maxRecDepth 100000
attribute [local go_sem] Oper.semAt_some
theorem QG (l:List UInt8) (w:World) (hl:l.length≤281474976710656) :
  Calls Tryz.prog 89 #[.string (za l)] w fun e w'=>e=.returned (.string (za l))∧Below w.heap.size w w':=by
 go_enter Tryz.func89,Tryz.ntmps89
 go_wp2_with fail
 refine (Tryz.stringslite_Clone (za l) w hl).mono ?_;rintro e w1 ⟨rfl,hb⟩;have HB:Hid (Below w.heap.size w w1):=hb;clear hb;go_wp2
 go_ret
 exact ⟨rfl,HB.out⟩
theorem zd4 (l:List UInt8) (w:World) :
  CallsIn Fence.wide 6 Tryz.prog 88 #[.string (za l)] w fun e w'=>e=.returned (.func (.func 126) #[] #[.pointer (some ⟨w.heap.size,0,none⟩)])∧w'=w.alloc (.cells #[.string (za l)] 9):=by
 refine callsIn_of_wp Tryz.func88 rfl trivial ?_ rfl;simp only [Tryz.ntmps88,List.size_toArray,List.length_cons,List.length_nil,Nat.reduceAdd,Nat.reduceSub,Array.replicate_succ,Array.replicate_zero,List.push_toArray,List.append_toArray,List.nil_append,List.cons_append]
 gi_wp2
 go_ret
 exact ⟨rfl,rfl⟩
theorem za2 {n:Nat} {P:Program} {g:Operand} {ps:Array Tmp} {assign body:Code} {Q:Exit→Act→World→Prop} {a:Act} {w:World} {gf:Nat} {lb:Array Value}
  (hg:a.eval g=.func (.func gf) #[] lb) (eg:∀args w,(callFunc gf args).run P w=.ok (.enter gf args) w)
  (h:∀r0:Loop,r0.state=.ready→r0.pending=none→r0.tmps=a.tmps→r0.params=ps→r0.assign=assign→r0.body=body →
   CallsIn Fence.wide (n-1) P gf (#[.func (.yield (w.heap.size+1)) #[] #[]]++lb) ((w.alloc (.deferred (some []))).alloc (.loop r0)) (rangePost Fence.wide n P (w.heap.size+1) Q { a with defers:=[{ target:=.collected w.heap.size,args:=#[] }]++a.defers })) :
  (Code.rangeFunc g ps assign body).wpIn Fence.wide n P Q a w :=
 wpIn_rangeFunc fun fn _=>⟨_,_,_,{ target:=.fn (.func gf) lb,args:=#[.func (.yield (w.heap.size+1)) #[] #[]] },_,gf,_,_,run_enterLoop_outer fn a.tmps ps assign body,
  by simp only [resolve,hg];simp [go_sem];rfl,fun _ _=>trivial,by simp [invoke,go_sem,eg];rfl,(fun hd=>by cases hd),h _ rfl rfl rfl rfl rfl rfl⟩
theorem za3:(Tryz.prog.info? 66).map (fun i=>(i.zero,i.size,i.bytes))=some (some (.agg #[.int .i64 0,.string ⟨#[]⟩,.int .i64 0,.int .i64 0,.int .i64 0]),5,48):=by kernel_rfl
structure xK (N:Nat) (w:World) (l:List UInt8) (ob:Obj) (pre:List Tk) (line a:Nat) (W:World):Prop where
 all:∃r,Boxed W (N+3) 58 r∧W.ownsRow (N+7) 66 5 r pre.length (z8 pre)
 r0:Boxed W N 58 (.slice none 0 0)
 r1:Boxed W (N+1) 3 (.int .i64 0)
 r2:Boxed W (N+2) 26 (.int .i64 0)
 sb:Boxed W (N+4) 9 (.string (za l))
 bel:Below N w W
 defd:W.heap[N+5]?=some (.deferred (some []))
 loop:W.heap[N+6]?=some ob
 unto:XP l 1 0 pre line a
structure zdy (N:Nat) (w:World) (l:List UInt8) (ob:Obj) (pre:List Tk) (line a:Nat) (W:World):Prop where
 r0:Boxed W N 58 (.slice none 0 0)
 r1:Boxed W (N+1) 3 (.int .i64 (zM l a))
 r2:Boxed W (N+2) 26 (.int .i64 (zV l a).e)
 bel:Below N w W
 defd:W.heap[N+5]?=some (.deferred (some []))
 loop:W.heap[N+6]?=some ob
 unto:XP l 1 0 pre line a
theorem Xg {w w':World} {B e sz n:Nat} {v:Value} {xs:List Value} (h:w.ownsRow B e sz v n xs) (hk:∀(k:Nat) (cur:Array Value),w.heap[k]?=some (Obj.cells cur e (0,0))→w'.heap[k]?=w.heap[k]?):w'.ownsRow B e sz v n xs:=by
 obtain ⟨h1,h2⟩:=h;refine ⟨h1,?_⟩;rcases h2 with h2 | ⟨g,cap,cur,hv,hg,hh,r⟩
 ·exact .inl h2
 ·exact .inr ⟨g,cap,cur,hv,hg,(hk g cur hh).trans hh,r⟩
theorem zd5 {w:World} {B B' e sz n:Nat} {v:Value} {xs:List Value} (h:w.ownsRow B e sz v n xs) (hB:B'≤B):w.ownsRow B' e sz v n xs:=by
 obtain ⟨h1,h2⟩:=h;refine ⟨h1,?_⟩;rcases h2 with h2 | ⟨g,cap,cur,hv,hg,r⟩
 ·exact .inl h2
 ·exact .inr ⟨g,cap,cur,hv,Nat.le_trans hB hg,r⟩
theorem xK.grow {N:Nat} {w:World} {l:List UInt8} {ob:Obj} {pre:List Tk} {line a:Nat} {W W':World} (h:xK N w l ob pre line a W) (hB:Below W.heap.size W W'):xK N w l ob pre line a W':=by
 have hN:N+6<W.heap.size:=(Array.getElem?_eq_some_iff.1 h.loop).1;obtain ⟨⟨r,h1,h2⟩,b0,b1,b2,b4,hb,hd,hl,ht⟩:=h;have key:∀{k:Nat} {o:Obj},W.heap[k]?=some o→W'.heap[k]?=some o:=fun {k o} hk=>(hB.block k (Array.getElem?_eq_some_iff.1 hk).1).trans hk
 exact ⟨⟨r,key h1,Xg h2 (fun k cur hk=>hB.block k (Array.getElem?_eq_some_iff.1 hk).1)⟩,key b0,key b1,key b2,key b4,hb.trans (hB.mono (by omega)),key hd,key hl,ht⟩
theorem xK.put {N:Nat} {w:World} {l:List UInt8} {ob ob':Obj} {pre:List Tk} {line a:Nat} {W:World} (h:xK N w l ob pre line a W) (hob:ob.isCells=false):xK N w l ob' pre line a (W.putObj (N+6) ob'):=by
 have hN:N+6<W.heap.size:=(Array.getElem?_eq_some_iff.1 h.loop).1;have hl:=h.loop;obtain ⟨⟨r,h1,h2⟩,b0,b1,b2,b4,hb,hd,_,ht⟩:=h;have key:∀{k:Nat},k≠N+6→(W.putObj (N+6) ob').heap[k]?=W.heap[k]?:=fun {k} hk=>World.putObj_heap_other hk
 refine ⟨⟨r,(key (by omega)).trans h1,Xg h2 (fun k cur hk=>key (fun e=>?_))⟩,(key (by omega)).trans b0,(key (by omega)).trans b1,(key (by omega)).trans b2,(key (by omega)).trans b4,?_,(key (by omega)).trans hd,World.putObj_heap_same hN,ht⟩
 ·rw [e,hl] at hk;cases hk;cases hob
 ·exact hb.trans ((Below.refl N W).grown (grownBy_putObj' W _ _) (by omega) (fun k e=>by cases e;omega))
theorem xX {W:World} {b i:Nat} {v:Value} {cur:Array Value} {t:TypeId} {fr:Nat × Nat} (h:W.heap[b]?=some (.cells cur t fr)) (hv:cur[i]?=some v):W.setCell ⟨b,i,none⟩ v=W:=by
 have e:W.heap.modify b (fun | .cells c elem frozen=>.cells (if (none:Option Unit).isSome then c else c.setIfInBounds i v) elem frozen | o=>o)=W.heap:=by
  apply Array.ext_getElem?
  intro k
  by_cases hk:k=b
  ·subst hk
   rw [Array.getElem?_modify,h]
   have:cur.setIfInBounds i v=cur:=by
    apply Array.ext_getElem?
    intro j;rw [Array.getElem?_setIfInBounds]
    by_cases hj:i=j
    ·subst hj
     rw [hv]
     have:=(Array.getElem?_eq_some_iff.1 hv).1
     simp [this]
    ·simp [hj]
   simp [this]
  ·rw [Array.getElem?_modify,if_neg (by omega)]
 cases W
 unfold World.setCell
 simp only at e ⊢
 congr 1
theorem XQ {fn:Func} {p q s:Tmp} {t1 t2 t3:TypeId} (h:fn.results=#[.cell p t1,.cell q t2,.cell s t3]) (tmps:Array Value) (P:Program) (w:World) {a1 a2 a3:Addr} {v1 v2 v3:Value}
  (h1:tmps.getD p undef=.pointer (some a1)) (h2:tmps.getD q undef=.pointer (some a2)) (h3:tmps.getD s undef=.pointer (some a3))
  (l1:(loadVar t1 a1).run P w=.ok v1 w) (l2:(loadVar t2 a2).run P w=.ok v2 w) (l3:(loadVar t3 a3).run P w=.ok v3 w) :
  (results fn tmps).run P w=.ok (.tuple #[v1,v2,v3]) w:=by
 rw [Array.getD_eq_getD_getElem?] at h1 h2 h3;simp only [results,h]
 simp [Sem.run_bind,Result.andThen,h1,h2,h3,l1,l2,l3,asAddr]
theorem zco {W:World} {b i:Nat} {cur:Array Value} {t:TypeId} (h:W.heap[b]?=some (.cells cur t (0,0))):W.frozen? ⟨b,i,none⟩=false:=by simp [World.frozen?,h]
theorem Zl (W:World) (cs:List Value) (t:TypeId):∀j u,cs[j]?=some u→(W.alloc (.cells cs.toArray t)).cell? ((⟨W.heap.size,0,none⟩:Addr).add j)=some u:=fun j u h=>by
 rw [show (⟨W.heap.size,0,none⟩:Addr).add j=⟨W.heap.size,j,none⟩ by simp [Addr.add];try omega,cell_of_row _ _ _ _ _ _ (World.alloc_heap_new W _)]
 simpa using h
theorem zgw (l:List UInt8) (w:World) (hl:l.length≤4096) (ht:Ys w) :
  Calls Tryz.prog 47 #[.string (za l)] w fun e w'=>∃(r:Value),e=.returned (.tuple #[r,.int .i64 (scanS l (l.length+1) 1 0).2.1,.int .i64 (scanS l (l.length+1) 1 0).2.2]) ∧
   w'.ownsRow w.heap.size 66 5 r (scanS l (l.length+1) 1 0).1.length (z8 (scanS l (l.length+1) 1 0).1)∧Below w.heap.size w w':=by
 obtain ⟨i0,hi,hz0,hz1,hz2⟩:=info_parts za3;have HT:Hid (Ys w):=ht;have hsz0:(za l).size=l.length:=rfl;clear ht;refine (callsIn_wide (n:=7)).1 ?_;refine callsIn_of_wp_marks Tryz.func47 rfl trivial ?_ rfl;simp only [Tryz.ntmps47,List.size_toArray,List.length_cons,List.length_nil,Nat.reduceAdd,Nat.reduceSub,Array.replicate_succ,Array.replicate_zero,List.push_toArray,List.append_toArray,List.nil_append,List.cons_append]
 gi_wp2_with (refine ⟨trivial,?_⟩;gi_at_call 88;refine (zd4 _ _).mono ?_;rintro e w' ⟨rfl,rfl⟩)
 refine za2 rfl (enters_of Tryz.func126 (by kernel_rfl) rfl) (fun r0 hst hpe htm hpa has hbo=>?_)
 obtain ⟨N,hN⟩:∃N,N=w.heap.size:=⟨_,rfl⟩;obtain ⟨W0,hW0⟩:∃W0,W0=((((w.alloc (.cells #[.slice none 0 0] 58)).alloc (.cells #[.int .i64 0] 3)).alloc (.cells #[.int .i64 0] 26)).alloc (.cells #[.slice none 0 0] 58)).alloc (.cells #[.string (za l)] 9):=⟨_,rfl⟩;have hsz:W0.heap.size=N+5:=by rw [hW0,hN];simp
 have hB0:Below N w W0:=by
  rw [hW0,hN];exact (((((Below.refl _ w).alloc (Nat.le_refl _) _).alloc (by simp) _).alloc (by simp;omega) _).alloc (by simp;omega) _).alloc (by simp;omega) _
 have b0:Boxed W0 N 58 (.slice none 0 0):=by rw [hW0,hN];exact ((((Boxed.new w _ _).alloc _).alloc _).alloc _).alloc _
 have b1:Boxed W0 (N+1) 3 (.int .i64 0):=by
  have h:=(((Boxed.new (w.alloc (.cells #[.slice none 0 0] 58)) 3 (.int .i64 0)).alloc (.cells #[.int .i64 0] 26)).alloc (.cells #[.slice none 0 0] 58)).alloc (.cells #[.string (za l)] 9);rw [World.size_alloc] at h;rw [hW0,hN];exact h
 have b2:Boxed W0 (N+2) 26 (.int .i64 0):=by
  have h:=((Boxed.new ((w.alloc (.cells #[.slice none 0 0] 58)).alloc (.cells #[.int .i64 0] 3)) 26 (.int .i64 0)).alloc (.cells #[.slice none 0 0] 58)).alloc (.cells #[.string (za l)] 9);rw [World.size_alloc,World.size_alloc] at h;rw [hW0,hN];exact h
 have b3:Boxed W0 (N+3) 58 (.slice none 0 0):=by
  have h:=(Boxed.new (((w.alloc (.cells #[.slice none 0 0] 58)).alloc (.cells #[.int .i64 0] 3)).alloc (.cells #[.int .i64 0] 26)) 58 (.slice none 0 0)).alloc (.cells #[.string (za l)] 9);rw [World.size_alloc,World.size_alloc,World.size_alloc] at h;rw [hW0,hN];exact h
 have b4:Boxed W0 (N+4) 9 (.string (za l)):=by
  have h:=Boxed.new ((((w.alloc (.cells #[.slice none 0 0] 58)).alloc (.cells #[.int .i64 0] 3)).alloc (.cells #[.int .i64 0] 26)).alloc (.cells #[.slice none 0 0] 58)) 9 (.string (za l));rw [World.size_alloc,World.size_alloc,World.size_alloc,World.size_alloc] at h;rw [hW0,hN];exact h
 rw [←hW0,hsz];simp only [Nat.add_assoc,Nat.reduceAdd] at htm ⊢;rw [←hN] at htm ⊢;have HN:Hid (N=w.heap.size):=hN;clear hN hW0
 have hd1:((W0.alloc (.deferred (some []))).alloc (.loop r0)).heap[N+5]?=some (.deferred (some [])):=by
  rw [←hsz];exact (Below.heap_alloc _ _ _ (by simp)).trans (World.alloc_heap_new W0 _)
 have hl1:((W0.alloc (.deferred (some []))).alloc (.loop r0)).heap[N+6]?=some (.loop r0):=by
  have:=World.alloc_heap_new (W0.alloc (.deferred (some []))) (.loop r0)
  rwa [World.size_alloc,hsz] at this
 have hJ0:xK N w l (.loop r0) [] 1 0 ((W0.alloc (.deferred (some []))).alloc (.loop r0)) :=
  ⟨⟨.slice none 0 0,(b3.alloc _).alloc _,World.ownsRow_nil _ _ _ _⟩,(b0.alloc _).alloc _,(b1.alloc _).alloc _,(b2.alloc _).alloc _,(b4.alloc _).alloc _,((hB0.alloc (by omega) _).alloc (by simp;omega) _),hd1,hl1,rfl,rfl⟩
 obtain ⟨rE,hrE⟩:∃rE:Loop,rE={ r0 with state:=.done,pending:=some .ret }:=⟨_,rfl⟩;have HRE:Hid (rE={ r0 with state:=.done,pending:=some .ret }):=hrE;clear hrE;refine (zcn (N+6) (N+4) l hl (xK N w l (.loop r0)) (zdy N w l (.loop rE)) ?hJc ?hJg ?hE ?hY _ hJ0).mono ?_
 case hJc =>
  intro pre line a W hpk hJ;exact ⟨hJ.sb.cell,HT.out.below hJ.bel (by rw [HN.out];exact Nat.le_refl _),(VL pre 1 0 hJ.unto hpk (Nat.zero_le _) (by omega)).2.2⟩
 case hJg =>
  intro pre line a W W' h hB;exact h.grow hB
 case hE =>
  intro pre line a W1 o hpk hJ he ha;have hJy:xK N w l (.loop r0) pre line a (W1.alloc o):=hJ.grow ((Below.refl _ W1).alloc (Nat.le_refl _) o);have hl2:=hJy.loop;refine ⟨_,_,_,_,run_yield hl2 (by rw [hpa];rfl),roundIn_of_wpIn trivial ?_⟩
  rw [has,hbo,htm,hpa];obtain ⟨T,hT⟩:∃T,T=tkT l line a:=⟨_,rfl⟩;rw [←hT];have HTT:Hid (T=tkT l line a):=hT;clear hT;obtain ⟨er,her⟩:∃er,er=(zV l a).e:=⟨_,rfl⟩;rw [←her] at he ⊢;have HER:Hid (er=(zV l a).e):=her;clear her;have heb:((er:Int) != 0)=true:=by rw [bne_iff_ne];omega
  unfold zd3
  simp only [List.zip_toArray,List.zip_cons_cons,List.zip_nil_right]
  gi_wp2
  have hJt:xK N w l (.loop r0) pre line a ((W1.alloc o).alloc (.cells #[.int .i64 T.k,.string (za T.s),.int .i64 T.n,.int .i64 T.line,.int .i64 T.at0] 66)):=hJy.grow ((Below.refl _ _).alloc (Nat.le_refl _) _);have hl3:=hJt.loop;refine ⟨_,run_beginRound (P:=Tryz.prog) hl3 hst,?_⟩;have hJb:=hJt.put (ob':=.loop { r0 with state:=.busy }) rfl;have hNs:N+6<W1.heap.size:=(Array.getElem?_eq_some_iff.1 hJ.loop).1
  have hb5:(((W1.alloc o).alloc (.cells #[.int .i64 T.k,.string (za T.s),.int .i64 T.n,.int .i64 T.line,.int .i64 T.at0] 66)).putObj (N+6) (.loop { r0 with state:=.busy })).heap[W1.heap.size+1]?=some (.cells #[.int .i64 T.k,.string (za T.s),.int .i64 T.n,.int .i64 T.line,.int .i64 T.at0] 66 (0,0)):=by
   rw [World.putObj_heap_other (by omega)]
   have:=World.alloc_heap_new (W1.alloc o) (.cells #[.int .i64 T.k,.string (za T.s),.int .i64 T.n,.int .i64 T.line,.int .i64 T.at0] 66)
   rwa [World.size_alloc] at this
  generalize ((W1.alloc o).alloc (.cells #[.int .i64 T.k,.string (za T.s),.int .i64 T.n,.int .i64 T.line,.int .i64 T.at0] 66)).putObj (N+6) (.loop { r0 with state:=.busy })=Wb at hJb hb5 ⊢;obtain ⟨M,hM⟩:∃M,M=W1.heap.size:=⟨_,rfl⟩;rw [←hM] at hb5 hNs ⊢;clear hM hl3 hJt hl2 hJy hJ;have HJB:Hid (xK N w l (.loop { r0 with state:=.busy }) pre line a Wb):=hJb;have k0:=hJb.r0;have k1:=hJb.r1;have k2:=hJb.r2;have kc0:=k0.cell;have kf0:=k0.frozen;have kc1:=k1.cell;have kf1:=k1.frozen;have kc2:=k2.cell;have kf2:=k2.frozen;clear hJb;have q4:Wb.cell? ⟨M+1,4,none⟩=some (.int .i64 T.at0):=by rw [cell_of_row _ _ _ _ _ _ hb5];rfl
  have s0:Wb.setCell ⟨N,0,none⟩ (.slice none 0 0)=Wb:=xX k0 rfl;have kc3:(Wb.setCell ⟨N+1,0,none⟩ (.int .i64 T.at0)).cell? ⟨N+2,0,none⟩=some (.int .i64 0):=(k2.kept (grownBy_setCell' Wb (N+1) _) (by simp)).cell
  have kf3:(Wb.setCell ⟨N+1,0,none⟩ (.int .i64 T.at0)).frozen? ⟨N+2,0,none⟩=false:=(k2.kept (grownBy_setCell' Wb (N+1) _) (by simp)).frozen
  have HF:Hid (∀act,roundPost Tryz.prog (N+6) (fun e W'=>e=Ending.returned (Value.bool false)∧zdy N w l (Obj.loop rE) pre line a W') Exit.ret act ((Wb.setCell ⟨N+1,0,none⟩ (.int .i64 T.at0)).setCell ⟨N+2,0,none⟩ (.int .i64 er)).drew):=by
   intro act;have J:=HJB.out
   have key:∀{k:Nat} {ob:Obj},k≠N+1→k≠N+2→Wb.heap[k]?=some ob→((Wb.setCell ⟨N+1,0,none⟩ (.int .i64 T.at0)).setCell ⟨N+2,0,none⟩ (.int .i64 er)).drew.heap[k]?=some ob:=fun {k ob} h1 h2 h3=>by
    show ((Wb.setCell ⟨N+1,0,none⟩ (.int .i64 T.at0)).setCell ⟨N+2,0,none⟩ (.int .i64 er)).heap[k]?=some ob
    rw [Below.heap_setCell _ _ _ _ (by simpa using h2),Below.heap_setCell _ _ _ _ (by simpa using h1),h3]
   have m1:Boxed ((Wb.setCell ⟨N+1,0,none⟩ (.int .i64 T.at0)).setCell ⟨N+2,0,none⟩ (.int .i64 er)).drew (N+1) 3 (.int .i64 T.at0):=by
    have h:=(k1.set (.int .i64 T.at0)).kept (grownBy_setCell' (Wb.setCell ⟨N+1,0,none⟩ (.int .i64 T.at0)) (N+2) (.int .i64 er)) (by simp)
    exact h
   have m2:Boxed ((Wb.setCell ⟨N+1,0,none⟩ (.int .i64 T.at0)).setCell ⟨N+2,0,none⟩ (.int .i64 er)).drew (N+2) 26 (.int .i64 er):=(k2.kept (grownBy_setCell' Wb (N+1) (.int .i64 T.at0)) (by simp)).set (.int .i64 er)
   have hB:Below N Wb ((Wb.setCell ⟨N+1,0,none⟩ (.int .i64 T.at0)).setCell ⟨N+2,0,none⟩ (.int .i64 er)).drew:=(((Below.refl N Wb).setCell (p:=⟨N+1,0,none⟩) (by simp) _).setCell (p:=⟨N+2,0,none⟩) (by simp) _).trans (⟨rfl,rfl,rfl,Nat.le_refl _,fun _ _=>rfl⟩:Below N ((Wb.setCell ⟨N+1,0,none⟩ (.int .i64 T.at0)).setCell ⟨N+2,0,none⟩ (.int .i64 er)) ((Wb.setCell ⟨N+1,0,none⟩ (.int .i64 T.at0)).setCell ⟨N+2,0,none⟩ (.int .i64 er)).drew)
   have m0:=key (k:=N) (by omega) (by omega) J.r0
   have md:=key (k:=N+5) (by omega) (by omega) J.defd
   have ml:=key (k:=N+6) (by omega) (by omega) J.loop
   generalize ((Wb.setCell ⟨N+1,0,none⟩ (.int .i64 T.at0)).setCell ⟨N+2,0,none⟩ (.int .i64 er)).drew=X at m0 m1 m2 md ml hB ⊢;have hX:=(Array.getElem?_eq_some_iff.1 ml).1;refine ⟨_,_,run_endRound (some .ret) ml,rfl,?_⟩
   have er0:({ { r0 with state:=.busy } with state:=if (some Code.ret).isNone then .ready else .done,pending:=some .ret }:Loop)=rE:=by
    rw [HRE.out];rfl
   rw [er0];have e1:T.at0=zM l a:=by rw [HTT.out];rfl
   rw [e1] at m1;rw [HER.out] at m2;have put:∀{k:Nat} {ob:Obj},k≠N+6→X.heap[k]?=some ob→(X.putObj (N+6) (.loop rE)).heap[k]?=some ob:=fun {k ob} h1 h2=>(World.putObj_heap_other h1).trans h2
   exact ⟨put (by omega) m0,put (by omega) m1,put (by omega) m2,(J.bel.trans hB).trans ((Below.refl N X).grown (grownBy_putObj' X _ _) (by omega) (fun k e=>by cases e;omega)),put (by omega) md,World.putObj_heap_same hX,J.unto⟩
  gi_wp2
  gi_region
  all_goals (gi_wp2;exact HF.out _)
 case hY =>
  intro pre line a W1 o hpk hJ he ha;have hJy:xK N w l (.loop r0) pre line a (W1.alloc o):=hJ.grow ((Below.refl _ W1).alloc (Nat.le_refl _) o);have hpl:=VL pre 1 0 hJ.unto hpk (Nat.zero_le _) (by omega)
  have hl2:=hJy.loop;refine ⟨_,_,_,_,run_yield hl2 (by rw [hpa];rfl),roundIn_of_wpIn trivial ?_⟩
  rw [has,hbo,htm,hpa];obtain ⟨T,hT⟩:∃T,T=tkT l line a:=⟨_,rfl⟩;rw [←hT];have HTT:Hid (T=tkT l line a):=hT;clear hT
  unfold zd3
  simp only [List.zip_toArray,List.zip_cons_cons,List.zip_nil_right]
  gi_wp2
  have hJt:xK N w l (.loop r0) pre line a ((W1.alloc o).alloc (.cells #[.int .i64 T.k,.string (za T.s),.int .i64 T.n,.int .i64 T.line,.int .i64 T.at0] 66)):=hJy.grow ((Below.refl _ _).alloc (Nat.le_refl _) _);have hl3:=hJt.loop;refine ⟨_,run_beginRound (P:=Tryz.prog) hl3 hst,?_⟩;have hJb:=hJt.put (ob':=.loop { r0 with state:=.busy }) rfl;have hNs:N+6<W1.heap.size:=(Array.getElem?_eq_some_iff.1 hJ.loop).1
  have ho:(((W1.alloc o).alloc (.cells #[.int .i64 T.k,.string (za T.s),.int .i64 T.n,.int .i64 T.line,.int .i64 T.at0] 66)).putObj (N+6) (.loop { r0 with state:=.busy })).heap[W1.heap.size]?=some o:=by
   rw [World.putObj_heap_other (by omega),Below.heap_alloc _ _ _ (by simp)]
   exact World.alloc_heap_new W1 _
  have hb5:(((W1.alloc o).alloc (.cells #[.int .i64 T.k,.string (za T.s),.int .i64 T.n,.int .i64 T.line,.int .i64 T.at0] 66)).putObj (N+6) (.loop { r0 with state:=.busy })).heap[W1.heap.size+1]?=some (.cells #[.int .i64 T.k,.string (za T.s),.int .i64 T.n,.int .i64 T.line,.int .i64 T.at0] 66 (0,0)):=by
   rw [World.putObj_heap_other (by omega)]
   have:=World.alloc_heap_new (W1.alloc o) (.cells #[.int .i64 T.k,.string (za T.s),.int .i64 T.n,.int .i64 T.line,.int .i64 T.at0] 66)
   rwa [World.size_alloc] at this
  have hkeep:∀k,k≠N+6→k<W1.heap.size→∀ob,W1.heap[k]?=some ob→(((W1.alloc o).alloc (.cells #[.int .i64 T.k,.string (za T.s),.int .i64 T.n,.int .i64 T.line,.int .i64 T.at0] 66)).putObj (N+6) (.loop { r0 with state:=.busy })).heap[k]?=some ob:=fun k h1 h2 ob h3=>by
   rw [World.putObj_heap_other h1,Below.heap_alloc _ _ _ (by simp;omega),Below.heap_alloc _ _ _ h2,h3]
  have hsb:(((W1.alloc o).alloc (.cells #[.int .i64 T.k,.string (za T.s),.int .i64 T.n,.int .i64 T.line,.int .i64 T.at0] 66)).putObj (N+6) (.loop { r0 with state:=.busy })).heap.size=W1.heap.size+2:=by
   simp
  generalize ((W1.alloc o).alloc (.cells #[.int .i64 T.k,.string (za T.s),.int .i64 T.n,.int .i64 T.line,.int .i64 T.at0] 66)).putObj (N+6) (.loop { r0 with state:=.busy })=Wb at hJb ho hb5 hsb hkeep ⊢
  have hTl:T.s.length≤281474976710656:=by
   rw [HTT.out];have h1:=zfi (l.drop (a+Yn (l.drop a)));rw [List.length_drop] at h1;have h2:(tkT l line a).s=(Zc (l.drop (a+Yn (l.drop a)))).s:=rfl;rw [h2];omega
  obtain ⟨ra,ha1,ha2⟩:=hJ.all;have hra:Boxed Wb (N+3) 58 ra:=hkeep _ (by omega) (by omega) _ ha1
  have hrl:∀g,some g=ra.ownBlock→g<W1.heap.size:=fun g e=>(ha2.lt g e.symm).2
  obtain ⟨M,hM⟩:∃M,M=W1.heap.size:=⟨_,rfl⟩;rw [←hM] at ho hb5 hsb hNs hrl ⊢;have HRA:Hid (Boxed Wb (N+3) 58 ra):=hra;have HRL:Hid (∀g,some g=ra.ownBlock→g<M):=hrl;have HM:Hid (M=W1.heap.size):=hM;clear hM hl3 hJt hl2 hJy hkeep hra hrl ha1 ha2 hJ;have HJB:Hid (xK N w l (.loop { r0 with state:=.busy }) pre line a Wb):=hJb;clear hJb;have q1:Wb.cell? ⟨M+1,1,none⟩=some (.string (za T.s)):=by rw [cell_of_row _ _ _ _ _ _ hb5];rfl
  have hpn:pre.length≤5000:=by omega
  gi_wp2_with (first
   | (refine ⟨trivial,?_⟩;gi_at_call 89;refine (callsIn_wide.2 (QG _ _ hTl)).mono ?_;rintro e w3 ⟨rfl,hb3⟩
      have hb6:w3.heap[M+1]?=some (.cells #[.int .i64 T.k,.string (za T.s),.int .i64 T.n,.int .i64 T.line,.int .i64 T.at0] 66 (0,0)):=(hb3.block _ (by omega)).trans hb5
      have q2:w3.setCell ⟨M+1,1,none⟩ (.string (za T.s))=w3:=xX hb6 rfl;have q3:=zco (i:=1) hb6;have c0:w3.cell? ⟨M+1,0,none⟩=some (.int .i64 T.k):=by rw [cell_of_row _ _ _ _ _ _ hb6];rfl
      have c1:w3.cell? ⟨M+1,1,none⟩=some (.string (za T.s)):=by rw [cell_of_row _ _ _ _ _ _ hb6];rfl
      have c2:w3.cell? ⟨M+1,2,none⟩=some (.int .i64 T.n):=by rw [cell_of_row _ _ _ _ _ _ hb6];rfl
      have c3:w3.cell? ⟨M+1,3,none⟩=some (.int .i64 T.line):=by rw [cell_of_row _ _ _ _ _ _ hb6];rfl
      have c4:w3.cell? ⟨M+1,4,none⟩=some (.int .i64 T.at0):=by rw [cell_of_row _ _ _ _ _ _ hb6];rfl
      have HJ3:Hid (xK N w l (.loop { r0 with state:=.busy }) pre line a w3):=HJB.out.grow hb3;obtain ⟨r,hr1,hr2⟩:=HJ3.out.all;have hc0:=hr1.cell;have hs3:M+2≤w3.heap.size:=by rw [←hsb];exact hb3.size
      have ho3:w3.heap[M]?=some o:=(hb3.block _ (by omega)).trans ho)
   | (gi_at_builtin;refine wpListIn_append_own _ rfl _ _ 58 rfl (N+7) 66 i0 _ 5 48 Tryz.underlying58 hi hz0 hz1 hz2 rfl (by decide) _ _ _ rfl (hr2.alloc _) ⟨w3.heap.size,0,none⟩ 1 1 [.int .i64 T.k,.string (za T.s),.int .i64 T.n,.int .i64 T.line,.int .i64 T.at0] rfl rfl (Zl _ _ _) (by simp [Value.oneCell']) (by unfold maxLen;omega) (by omega) (by simp;omega) ?_;intro v' w4 hown' hgrow _;obtain ⟨g',cap',rfl⟩:=ownsRow_succ hown';have hr5:=(hr1.alloc (.cells #[.int .i64 T.k,.string (za T.s),.int .i64 T.n,.int .i64 T.line,.int .i64 T.at0] 66)).kept hgrow (hr1.not_row (by decide) hr2);have hc5:=hr5.cell;have hf5:=hr5.frozen))
  have hgr:(w3.alloc (.cells #[.int .i64 T.k,.string (za T.s),.int .i64 T.n,.int .i64 T.line,.int .i64 T.at0] 66)).grownBy w4 r.ownBlock:=hgrow
  have hrr:r=ra:=by
   have h1:Boxed w3 (N+3) 58 ra:=(hb3.block _ (by omega)).trans HRA.out
   have h2:=hr1.cell.symm.trans h1.cell;exact Option.some.inj h2
  have key:∀k,k<w3.heap.size→some k≠r.ownBlock→w4.heap[k]?=w3.heap[k]?:=fun k hk hn=>(hgr.block k (by simp;omega) hn).trans (Below.heap_alloc _ _ _ hk)
  have key5:∀{k:Nat} {ob:Obj},k<N+7→k≠N+3→w3.heap[k]?=some ob→(w4.setCell ⟨N+3,0,none⟩ (.slice (some ⟨g',0,none⟩) (pre.length+1) cap')).heap[k]?=some ob:=fun {k ob} h1 h2 h3=>by
   rw [Below.heap_setCell _ _ _ _ (by simpa using h2),key k (Array.getElem?_eq_some_iff.1 h3).1 (fun e=>by have:=(hr2.lt _ e.symm).1;omega),h3]
  have hJ5:xK N w l (.loop { r0 with state:=.busy }) (pre++[T]) (yr l line a) (zM l a+(zV l a).sz) (w4.setCell ⟨N+3,0,none⟩ (.slice (some ⟨g',0,none⟩) (pre.length+1) cap')):=by
   have J:=HJ3.out;refine ⟨⟨_,hr5.set _,?_⟩,key5 (by omega) (by omega) J.r0,key5 (by omega) (by omega) J.r1,key5 (by omega) (by omega) J.r2,key5 (by omega) (by omega) J.sb,?_,key5 (by omega) (by omega) J.defd,key5 (by omega) (by omega) J.loop,?_⟩
   ·rw [List.length_append,vQ]
    exact hown'.kept (grownBy_setCell' w4 (N+3) _) (.inr (hr5.not_row (by decide) hown').symm)
   ·exact J.bel.trans ((((Below.refl N w3).alloc (by omega) _).grown hgr (by simp;omega) (fun j ej=>by have:=(hr2.lt j ej).1;omega)).setCell (p:=⟨N+3,0,none⟩) (by simp) _)
   ·rw [HTT.out];exact Ul he J.unto
  have hl8:=hJ5.loop
  have ho5:(w4.setCell ⟨N+3,0,none⟩ (.slice (some ⟨g',0,none⟩) (pre.length+1) cap')).heap[M]?=some o:=by
   rw [Below.heap_setCell _ _ _ _ (by simp;omega),key M (by omega) (fun e=>by rw [hrr] at e;have:=HRL.out _ e;omega),ho3]
  refine ⟨_,_,run_endRound none hl8,rfl,?_⟩
  have er0:({ { r0 with state:=.busy } with state:=if (none:Option Code).isNone then .ready else .done,pending:=none }:Loop)=r0:=by
   cases r0;simp_all
  rw [er0];refine ⟨hJ5.put rfl,?_⟩;rw [World.putObj_heap_other (by omega)]
  exact ho5
 rintro e W2 ⟨⟨u,rfl⟩,hfin⟩;rcases hfin with ⟨pre,line,a,hpk,he,hE⟩ | ⟨pre,line,a,hpk,he,hk,hJ⟩
 ·have hl2:=hE.loop
  have hes:rE.state≠.busy:=by rw [HRE.out];simp
  have hep:rE.pending=some .ret:=by rw [HRE.out]
  refine ⟨rE.pending,_,run_endLoop (P:=Tryz.prog) hl2 hes,?_⟩;rw [hep];have hX:=(Array.getElem?_eq_some_iff.1 hl2).1
  have hE4:zdy N w l (.loop { rE with state:=.exhausted }) pre line a (W2.putObj (N+6) (.loop { rE with state:=.exhausted })):=by
   have put:∀{k:Nat} {ob:Obj},k≠N+6→W2.heap[k]?=some ob→(W2.putObj (N+6) (.loop { rE with state:=.exhausted })).heap[k]?=some ob:=fun {k ob} h1 h2=>(World.putObj_heap_other h1).trans h2
   exact ⟨put (by omega) hE.r0,put (by omega) hE.r1,put (by omega) hE.r2,hE.bel.trans ((Below.refl N W2).grown (grownBy_putObj' W2 _ _) (by omega) (fun k e=>by cases e;omega)),put (by omega) hE.defd,World.putObj_heap_same hX,hE.unto⟩
  rw [hep] at hE4
  dsimp only
  generalize W2.putObj (N+6) (.loop { rE with state:=.exhausted,pending:=some .ret })=W4 at hE4 ⊢;have HE4:Hid (zdy N w l (.loop { rE with state:=.exhausted,pending:=some .ret }) pre line a W4):=hE4;have kc0:=hE4.r0.cell;have kc1:=hE4.r1.cell;have kc2:=hE4.r2.cell;clear hE4 hE hl2 hJ0 hl1 hd1
  gi_wp2
  have hK:=HE4.out.defd;have hKs:=(Array.getElem?_eq_some_iff.1 hK).1;refine ⟨by simp,.inl ⟨_,_,rfl,run_takeDeferred hK,?_⟩⟩
  have put:∀{k:Nat} {ob:Obj} (ob':Obj),k≠N+5→W4.heap[k]?=some ob→(W4.putObj (N+5) ob').heap[k]?=some ob:=fun {k ob} ob' h1 h2=>(World.putObj_heap_other h1).trans h2
  have m0:Boxed (W4.putObj (N+5) (.deferred none)) N 58 (.slice none 0 0):=put _ (by omega) HE4.out.r0
  have m1:Boxed (W4.putObj (N+5) (.deferred none)) (N+1) 3 (.int .i64 (zM l a)):=put _ (by omega) HE4.out.r1
  have m2:Boxed (W4.putObj (N+5) (.deferred none)) (N+2) 26 (.int .i64 (zV l a).e):=put _ (by omega) HE4.out.r2
  have c0:=m0.cell;have c1:=m1.cell;have c2:=m2.cell;refine ⟨_,XQ rfl _ _ _ rfl rfl rfl (by simp [go_sem,c0];rfl) (by simp [go_sem,c1];rfl) (by simp [go_sem,c2];rfl),.slice none 0 0,?_⟩
  rw [QE he pre 1 0 (l.length+1) HE4.out.unto hpk (Nat.zero_le _) (by omega),←HN.out]
  exact ⟨rfl,World.ownsRow_nil _ _ _ _,HE4.out.bel.trans ((Below.refl N W4).grown (grownBy_putObj' W4 _ _) (by omega) (fun k e=>by cases e;omega))⟩
 ·have hl2:=hJ.loop
  refine ⟨r0.pending,_,run_endLoop (P:=Tryz.prog) hl2 (by rw [hst];simp),?_⟩
  have hJ4:=hJ.put (ob':=.loop { r0 with state:=.exhausted }) rfl;generalize W2.putObj (N+6) (.loop { r0 with state:=.exhausted })=W4 at hJ4 ⊢;rw [hpe];show Exit.inBlock 0 _ Exit.normal _ W4
  have HJ4:Hid (xK N w l (Obj.loop { r0 with state:=.exhausted }) (pre++[tkT l line a]) (yr l line a) (zM l a+(zV l a).sz) W4):=hJ4;obtain ⟨r,hr1,hr2⟩:=hJ4.all;have hr3:=hr2;rw [List.length_append] at hr3;obtain ⟨g',cap',rfl⟩:=ownsRow_succ hr3;clear hr3;have k0:=hJ4.r0;have k1:=hJ4.r1;have k2:=hJ4.r2;have kc0:=k0.cell;have kf0:=k0.frozen;have kc1:=k1.cell;have kf1:=k1.frozen;have kc2:=k2.cell;have kf2:=k2.frozen;have kc3:=hr1.cell;have j1:=k1.kept (grownBy_setCell' W4 N (.slice (some ⟨g',0,none⟩) (pre.length+1) cap')) (by simp)
  have j2:=k2.kept (grownBy_setCell' W4 N (.slice (some ⟨g',0,none⟩) (pre.length+1) cap')) (by simp)
  have jc1:=j1.cell;have jf1:=j1.frozen;have jc2:=j2.cell;have jf2:=j2.frozen;have js1:(W4.setCell ⟨N,0,none⟩ (.slice (some ⟨g',0,none⟩) (pre.length+1) cap')).setCell ⟨N+1,0,none⟩ (.int .i64 0)=W4.setCell ⟨N,0,none⟩ (.slice (some ⟨g',0,none⟩) (pre.length+1) cap'):=xX j1 rfl;have js2:(W4.setCell ⟨N,0,none⟩ (.slice (some ⟨g',0,none⟩) (pre.length+1) cap')).setCell ⟨N+2,0,none⟩ (.int .i64 0)=W4.setCell ⟨N,0,none⟩ (.slice (some ⟨g',0,none⟩) (pre.length+1) cap'):=xX j2 rfl;have jc0:=(k0.set (.slice (some ⟨g',0,none⟩) (pre.length+1) cap')).cell;clear hJ4 hJ hl2 hJ0 hl1 hd1
  gi_wp2
  have hto:=HJ4.out.unto
  have hK:(W4.setCell ⟨N,0,none⟩ (.slice (some ⟨g',0,none⟩) (pre.length+1) cap')).heap[N+5]?=some (.deferred (some [])):=by
   rw [Below.heap_setCell _ _ _ _ (by simp)];exact HJ4.out.defd
  have hKs:=(Array.getElem?_eq_some_iff.1 hK).1;have m0':=k0.set (.slice (some ⟨g',0,none⟩) (pre.length+1) cap');have hr5:=hr2.kept (grownBy_setCell' W4 N (.slice (some ⟨g',0,none⟩) (pre.length+1) cap')) (.inr (k0.not_row (by decide) hr2).symm)
  have hB5:Below N w (W4.setCell ⟨N,0,none⟩ (.slice (some ⟨g',0,none⟩) (pre.length+1) cap')):=HJ4.out.bel.trans ((Below.refl N W4).setCell (p:=⟨N,0,none⟩) (Nat.le_refl _) _);generalize W4.setCell ⟨N,0,none⟩ (.slice (some ⟨g',0,none⟩) (pre.length+1) cap')=W5 at hK hKs m0' hr5 hB5 j1 j2 ⊢;refine ⟨by simp,.inl ⟨_,_,rfl,run_takeDeferred hK,?_⟩⟩
  have put:∀{k:Nat} {ob:Obj} (ob':Obj),k≠N+5→W5.heap[k]?=some ob→(W5.putObj (N+5) ob').heap[k]?=some ob:=fun {k ob} ob' h1 h2=>(World.putObj_heap_other h1).trans h2
  have m0:Boxed (W5.putObj (N+5) (.deferred none)) N 58 (.slice (some ⟨g',0,none⟩) (pre.length+1) cap'):=put _ (by omega) m0'
  have m1:Boxed (W5.putObj (N+5) (.deferred none)) (N+1) 3 (.int .i64 0):=put _ (by omega) j1
  have m2:Boxed (W5.putObj (N+5) (.deferred none)) (N+2) 26 (.int .i64 0):=put _ (by omega) j2
  have c0:=m0.cell;have c1:=m1.cell;have c2:=m2.cell;refine ⟨_,XQ rfl _ _ _ rfl rfl rfl (by simp [go_sem,c0];rfl) (by simp [go_sem,c1];rfl) (by simp [go_sem,c2];rfl),.slice (some ⟨g',0,none⟩) (pre.length+1) cap',?_⟩
  obtain ⟨line',a',h1,h2,h3⟩:=Um hto;have hk':(zV l a').k=0:=by rw [←hk];exact (congrArg Tk.k h3).symm
  rw [QF h2 hk' pre 1 0 (l.length+1) h1 hpk (Nat.zero_le _) (by omega),←HN.out,←h3,List.length_append]
  rw [List.length_append] at hr5;exact ⟨rfl,ownsRow_putObj (zd5 hr5 (show N≤N+7 by omega)) _ hK rfl,hB5.trans ((Below.refl N W5).grown (grownBy_putObj' W5 _ _) (by omega) (fun k e=>by cases e;omega))⟩
end Go.Proofs.YtpejpbbdgblbeaaGreatDoor
