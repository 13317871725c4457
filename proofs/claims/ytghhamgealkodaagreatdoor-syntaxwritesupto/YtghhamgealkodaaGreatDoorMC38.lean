import Derived.Test.YtghhamgealkodaaGreatDoorSReadP
import Derived.Test.YtghhamgealkodaaGreatDoorSReadX
import Derived.Test.YtghhamgealkodaaGreatDoorMC13
import Derived.Test.YtghhamgealkodaaGreatDoorMC4
namespace Go.Proofs.YtghhamgealkodaaGreatDoor
open Go.RowKit Go.Shelf
set_option maxRecDepth 100000
set_option maxHeartbeats 4000000 in
theorem parseX (l:List UInt8) (w:World) (ht:Tabs w) (hl:LevT w) (he:ErrT w) :
  Calls Tryz.prog 8 #[.string (strB l)] w fun e w' =>
   ∃(x:Pg) (at0 err:Nat) (v:Value),e=.returned (.tuple #[v,.int .i64 at0,.int .i64 err])∧IsProg l x at0 err∧PgAt w.heap.size w' x v∧Below w.heap.size w w':=by
 have hb:Below w.heap.size w (w.alloc pgZ):=(Below.refl w.heap.size w).alloc (Nat.le_refl _) _
 have cr:=readP l (w.alloc pgZ) (ht.below hb (Nat.le_refl _)) (fun j v hj=>cell_al (hl j v hj) _) (cell_al he _)
 go_enter Tryz.func8,Tryz.ntmps8
 go_wp2_with fail
 refine cr.mono ?_
 clear cr
 rintro e w1 ⟨x,at0,err,v,rfl,hI,hx,hb1⟩
 obtain ⟨s0,s1,s2,d0,d1,d2,rfl⟩:=hx.agg
 have hsz:(w.alloc pgZ).heap.size=w.heap.size+1:=by simp
 rw [hsz] at hx hb1
 have p0:w1.heap[w.heap.size]?=some pgZ:=(hb1.block w.heap.size (by omega)).trans (World.alloc_heap_new w _)
 obtain ⟨q0,q1,qf⟩:=cells2 p0
 obtain ⟨z0,z1⟩:=set2_cells p0 (.slice s0 s1 s2) (.slice d0 d1 d2)
 have hb2:Below w.heap.size w w1:=hb.trans (hb1.mono (by omega))
 have HB:Hid (Below w.heap.size w (set2 w1 w.heap.size (.slice s0 s1 s2) (.slice d0 d1 d2))) :=
  (hb2.setCell (p:=⟨w.heap.size,0,none⟩) (by simp) _).setCell (p:=⟨w.heap.size,1,none⟩) (by simp) _
 have HX:Hid (PgAt w.heap.size (set2 w1 w.heap.size (.slice s0 s1 s2) (.slice d0 d1 d2)) x (.agg #[.slice s0 s1 s2,.slice d0 d1 d2])) :=
  PgAt.mono (PgAt.kept hx (w':=set2 w1 w.heap.size (.slice s0 s1 s2) (.slice d0 d1 d2)) (by simp) fun j hj _=>set2_keep _ _ _ _ (by omega)) (by omega)
 have HI:Hid (IsProg l x at0 err):=hI
 clear hb hb2 hx hb1 hI p0 ht hl he
 go_wp2
 exact bodyPost_ret (v:=.tuple #[.agg #[.slice s0 s1 s2,.slice d0 d1 d2],.int .i64 at0,.int .i64 err]) (by simp [results,Tryz.results8,go_sem,z0,z1]) rfl ⟨x,at0,err,_,rfl,HI.out,HX.out,HB.out⟩
set_option maxHeartbeats 4000000 in
theorem exprX (l:List UInt8) (w:World) (ht:Tabs w) (hl:LevT w) (he:ErrT w) :
  Calls Tryz.prog 14 #[.string (strB l)] w fun e w' =>
   ∃(x:Ex) (at0 err:Nat) (v:Value),e=.returned (.tuple #[v,.int .i64 at0,.int .i64 err])∧IsExpr l x at0 err∧ExAt w.heap.size w' x v∧Below w.heap.size w w':=by
 have hb:Below w.heap.size w (w.alloc exZ):=(Below.refl w.heap.size w).alloc (Nat.le_refl _) _
 have cr:=readX l (w.alloc exZ) (ht.below hb (Nat.le_refl _)) (fun j v hj=>cell_al (hl j v hj) _) (cell_al he _)
 go_enter Tryz.func14,Tryz.ntmps14
 go_wp2_with fail
 refine cr.mono ?_
 clear cr
 rintro e w1 ⟨x,at0,err,v,rfl,hI,hx,hb1⟩
 obtain ⟨a,b,c,d0,d1,d2,k,rfl⟩:=hx.agg
 have hsz:(w.alloc exZ).heap.size=w.heap.size+1:=by simp
 rw [hsz] at hx hb1
 have p0:w1.heap[w.heap.size]?=some exZ:=(hb1.block w.heap.size (by omega)).trans (World.alloc_heap_new w _)
 obtain ⟨q0,q1,q2,q3,q4,qf⟩:=cells5 p0
 obtain ⟨z0,z1,z2,z3,z4⟩:=set5_cells p0 (.int .i64 a) (.string b) (.int .i64 c) (.slice d0 d1 d2) (.int .i64 k)
 have hb2:Below w.heap.size w w1:=hb.trans (hb1.mono (by omega))
 have HB:Hid (Below w.heap.size w (set5 w1 w.heap.size (.int .i64 a) (.string b) (.int .i64 c) (.slice d0 d1 d2) (.int .i64 k))) :=
  ((((hb2.setCell (p:=⟨w.heap.size,0,none⟩) (by simp) _).setCell (p:=⟨w.heap.size,1,none⟩) (by simp) _).setCell (p:=⟨w.heap.size,2,none⟩) (by simp) _).setCell (p:=⟨w.heap.size,3,none⟩) (by simp) _).setCell (p:=⟨w.heap.size,4,none⟩) (by simp) _
 have HX:Hid (ExAt w.heap.size (set5 w1 w.heap.size (.int .i64 a) (.string b) (.int .i64 c) (.slice d0 d1 d2) (.int .i64 k)) x (.agg #[.int .i64 a,.string b,.int .i64 c,.slice d0 d1 d2,.int .i64 k])) :=
  ExAt.mono (ExAt.kept hx (w':=set5 w1 w.heap.size (.int .i64 a) (.string b) (.int .i64 c) (.slice d0 d1 d2) (.int .i64 k)) (by simp) fun j hj _=>set5_keep _ _ _ _ _ _ _ (by omega)) (by omega)
 have HI:Hid (IsExpr l x at0 err):=hI
 clear hb hb2 hx hb1 hI p0 ht hl he
 go_wp2
 exact bodyPost_ret (v:=.tuple #[.agg #[.int .i64 a,.string b,.int .i64 c,.slice d0 d1 d2,.int .i64 k],.int .i64 at0,.int .i64 err]) (by simp [results,Tryz.results14,go_sem,z0,z1,z2,z3,z4]) rfl ⟨x,at0,err,_,rfl,HI.out,HX.out,HB.out⟩
mutual
def exz:Ex→Ez
 | .mk k s n kids line=>.mk k s n (exzL kids) line
def exzL:List Ex→List Ez
 | []=>[]
 | x::xs=>exz x::exzL xs
end
theorem exzL_map (l:List Ex):exzL l=l.map exz:=by
 induction l with
 | nil=>rfl
 | cons x xs ih=>rw [exzL,ih];rfl
mutual
def okE:Ex→Bool
 | .mk _ s n kids _=>decide (s.length≤100000000)&&decide (-9223372036854775808≤n)&&decide (n≤9223372036854775807)&&okL kids
def okL:List Ex→Bool
 | []=>true
 | x::xs=>okE x&&okL xs
end
theorem okL_get {l:List Ex} (h:okL l=true):∀{i:Nat} {x:Ex},l[i]?=some x→okE x=true:=by
 induction l with
 | nil=>intro i x hx;simp at hx
 | cons y ys ih =>
  intro i x hx
  rw [okL,Bool.and_eq_true] at h
  cases i with
  | zero=>simp only [List.getElem?_cons_zero,Option.some.injEq] at hx;subst hx;exact h.1
  | succ i=>exact ih h.2 (by simpa using hx)
theorem ExIn.ez {S:Nat→Prop} {B:Nat} {w:World} {x:Ex} {v:Value} (h:ExIn S w x v) (hS:∀k,S k→k<w.heap.size→k<B) (hok:okE x=true):EzIn B w (exz x) v:=by
 induction h with
 | leaf k s n line =>
  rw [okE] at hok
  simp only [Bool.and_eq_true,decide_eq_true_eq] at hok
  exact EzIn.mk (k:Int) s n [] (line:Int) none 0 0 0 [] hok.1.1.1 hok.1.1.2 hok.1.2 (fun h=>absurd rfl h) rfl (Nat.le_refl _) (Nat.zero_le _) (fun j u hj=>by simp at hj) (fun c hc=>by simp at hc) (fun j x c hx=>by simp at hx)
 | node k s n kids line g cap us hne hlen hB hg hc hm hcell hfive _ ih =>
  rw [okE] at hok
  simp only [Bool.and_eq_true,decide_eq_true_eq] at hok
  have e:(exzL kids).length=kids.length:=by rw [exzL_map,List.length_map]
  have:=EzIn.mk (B:=B) (w:=w) (k:Int) s n (exzL kids) (line:Int) (some ⟨g,0,none⟩) cap g 0 us hok.1.1.1 hok.1.1.2 hok.1.2 (fun _=>⟨rfl,hS g hB hg,hg⟩) (by rw [e];exact hlen) (by rw [e];exact hc) hm (fun j u hj=>by rw [Nat.zero_add];exact hcell j u hj) hfive (fun j x c hx hc'=>by
   rw [exzL_map,List.getElem?_map] at hx
   cases hy:kids[j]? with
   | none=>rw [hy] at hx;simp at hx
   | some y =>
    rw [hy] at hx
    simp only [Option.map_some,Option.some.injEq] at hx
    subst hx
    exact ih j y c hy hc' (okL_get hok.2 hy))
  rw [e] at this
  exact this
mutual
def stz:St→Sz
 | .mk k s es body els line=>.mk k s (exzL es) (stzL body) (stzL els) line
def stzL:List St→List Sz
 | []=>[]
 | x::xs=>stz x::stzL xs
end
theorem stzL_map (l:List St):stzL l=l.map stz:=by
 induction l with
 | nil=>rfl
 | cons x xs ih=>rw [stzL,ih];rfl
mutual
def okS:St→Bool
 | .mk _ s es body els _=>decide (s.length≤100000000)&&okL es&&okSL body&&okSL els
def okSL:List St→Bool
 | []=>true
 | x::xs=>okS x&&okSL xs
end
theorem okSL_get {l:List St} (h:okSL l=true):∀{i:Nat} {x:St},l[i]?=some x→okS x=true:=by
 induction l with
 | nil=>intro i x hx;simp at hx
 | cons y ys ih =>
  intro i x hx
  rw [okSL,Bool.and_eq_true] at h
  cases i with
  | zero=>simp only [List.getElem?_cons_zero,Option.some.injEq] at hx;subst hx;exact h.1
  | succ i=>exact ih h.2 (by simpa using hx)
mutual
def hiS:St→Nat
 | .mk _ _ _ body els _=>1+max (hiSL body) (hiSL els)
def hiSL:List St→Nat
 | []=>0
 | x::xs=>max (hiS x) (hiSL xs)
end
theorem hiSL_get {l:List St}:∀{i:Nat} {x:St},l[i]?=some x→hiS x≤hiSL l:=by
 induction l with
 | nil=>intro i x hx;simp at hx
 | cons y ys ih =>
  intro i x hx
  rw [hiSL]
  cases i with
  | zero=>simp only [List.getElem?_cons_zero,Option.some.injEq] at hx;subst hx;omega
  | succ i=>have:=ih (i:=i) (x:=x) (by simpa using hx);omega
theorem rowZ_of {α β:Type} {P:β→List Value→Prop} {f:α→β} {sz B g cap:Nat} {w:World} {l:List α} {us:List (List Value)} (hlen:us.length=l.length) (hB:g<B) (hg:g<w.heap.size) (hc:l.length≤cap) (hm:cap≤maxLen) (hcell:∀j u,us.flatten[j]?=some u→w.cell? ⟨g,j,none⟩=some u) (hw:∀c∈us,c.length=sz)
  (hk:∀(j:Nat) (x:α) (c:List Value),l[j]?=some x→us[j]?=some c→P (f x) c):RowZ P sz B w (l.map f) (some ⟨g,0,none⟩) l.length cap:=by
 refine ⟨by rw [List.length_map],by rw [List.length_map];exact hc,hm,fun i x hx=>?_⟩
 rw [List.getElem?_map] at hx
 cases hy:l[i]? with
 | none=>rw [hy] at hx;simp at hx
 | some y =>
  rw [hy] at hx
  simp only [Option.map_some,Option.some.injEq] at hx
  subst hx
  have hi:i<l.length:=(List.getElem?_eq_some_iff.1 hy).1
  obtain ⟨c,hc'⟩:∃c,us[i]?=some c:=⟨us[i]'(by omega),List.getElem?_eq_getElem (by omega)⟩
  have hcl:c.length=sz:=hw c (List.mem_of_getElem? hc')
  refine ⟨g,0,c,rfl,hB,hg,hcl,hk i y c hy hc',fun j u hj=>?_⟩
  have hjl:j<sz:=by rw [←hcl];exact (List.getElem?_eq_some_iff.1 hj).1
  rw [Nat.zero_add]
  exact hcell _ _ ((flatZ hw hc' hjl).trans hj)
theorem rowZ_nil {α β:Type} {P:β→List Value→Prop} {f:α→β} {sz B:Nat} {w:World}:RowZ P sz B w (([]:List α).map f) none 0 0:=⟨rfl,Nat.le_refl _,Nat.zero_le _,fun i x hx=>by simp at hx⟩
theorem RowIn.rowZ {S:Nat→Prop} {B:Nat} {w:World} {l:List Ex} {v:Value} (h:RowIn S w l v) (hS:∀k,S k→k<w.heap.size→k<B) (hok:okL l=true):∃b m cap,v=.slice b m cap∧RowZ (EzC B w) 5 B w (exzL l) b m cap:=by
 rw [exzL_map]
 rcases h with ⟨rfl,rfl⟩ | ⟨g,cap,us,rfl,_,hlen,hs,hg,hc,hm,hcell,hw,hk⟩
 ·exact ⟨none,0,0,rfl,rowZ_nil⟩
 ·exact ⟨_,_,_,rfl,rowZ_of hlen (hS g hs hg) hg hc hm hcell hw fun j x c hx hc'=>ExIn.ez (hk j x c hx hc') hS (okL_get hok hx)⟩
theorem SRowH.rowZ {S:Nat→Prop} {B f:Nat} {w:World} {l:List St} {v:Value} {g cap:Nat} {us:List (List Value)} (h:SRowH S w l v g cap us) (hS:∀k,S k→k<w.heap.size→k<B)
  (hk:∀(j:Nat) (x:St) (c:List Value),l[j]?=some x→us[j]?=some c→SzIn B w f (stz x) c):∃b m cap,v=.slice b m cap∧RowZ (SzIn B w f) 6 B w (stzL l) b m cap:=by
 rw [stzL_map]
 rcases h with ⟨rfl,rfl⟩ | ⟨rfl,_,hlen,hs,hg,hc,hm,hcell,hw⟩
 ·exact ⟨none,0,0,rfl,rowZ_nil⟩
 ·exact ⟨_,_,_,rfl,rowZ_of hlen (hS g hs hg) hg hc hm hcell hw hk⟩
theorem StIn.sz {S:Nat→Prop} {B:Nat} {w:World} {x:St} {v:Value} (h:StIn S w x v) (hS:∀k,S k→k<w.heap.size→k<B):∀(f:Nat) (c:List Value),hiS x≤f→okS x=true→v=.agg c.toArray→SzIn B w f (stz x) c:=by
 induction h with
 | mk k s es body els line ve vb vl gb cb gl cl ub ul he hbr hbk hl hlk ih1 ih2 =>
  intro f c hf hok hv
  rw [hiS] at hf
  rw [okS] at hok
  simp only [Bool.and_eq_true,decide_eq_true_eq] at hok
  obtain ⟨f,rfl⟩:∃f',f=f'+1:=⟨f-1,by omega⟩
  obtain ⟨be,me,ce,rfl,h1⟩:=he.rowZ hS hok.1.1.2
  obtain ⟨bb,mb,cb',rfl,h2⟩:=hbr.rowZ (f:=f) hS fun j x c hx hc=>ih1 j x c hx hc f c (by have:=hiSL_get hx;omega) (okSL_get hok.1.2 hx) rfl
  obtain ⟨bl,ml,cl',rfl,h3⟩:=hl.rowZ (f:=f) hS fun j x c hx hc=>ih2 j x c hx hc f c (by have:=hiSL_get hx;omega) (okSL_get hok.2 hx) rfl
  have hcl:c=[.int .i64 k,.string (strB s),.slice be me ce,.slice bb mb cb',.slice bl ml cl',.int .i64 line]:=by
   have:=congrArg (fun v=>match v with | .agg a=>a.toList | _=>[]) hv
   simpa using this.symm
  exact ⟨be,me,ce,bb,mb,cb',bl,ml,cl',hcl,hok.1.1.1,h1,h2,h3⟩
def rcz (x:Rc):Rz:=⟨x.name,x.fields,x.line⟩
def fcz (x:Fc):Fz:=⟨x.name,x.params,x.result,stzL x.body,x.line⟩
def pgz (x:Pg):Pz:=⟨x.recs.map rcz,x.funs.map fcz⟩
def okPm (l:List Pm):Bool:=l.all fun p=>decide (p.1.length≤100000000)&&decide (p.2.length≤100000000)
def okRc (x:Rc):Bool:=decide (x.name.length≤100000000)&&okPm x.fields
def okFc (x:Fc):Bool:=decide (x.name.length≤100000000)&&decide (x.result.length≤100000000)&&okPm x.params&&okSL x.body
def okPg (x:Pg):Bool:=x.recs.all okRc&&x.funs.all okFc
def hiPg (x:Pg):Nat:=(x.funs.map fun y=>hiSL y.body).foldr max 0
theorem hiPg_mem {l:List Fc} {y:Fc} (h:y∈l):hiSL y.body≤(l.map fun y=>hiSL y.body).foldr max 0:=by
 induction l with
 | nil=>simp at h
 | cons z zs ih =>
  rw [List.map_cons,List.foldr_cons]
  rcases List.mem_cons.1 h with rfl | h
  ·omega
  ·have:=ih h;omega
theorem RowG.rowZ {α β:Type} {E:(Nat→Prop)→World→α→List Value→Prop} {P:β→List Value→Prop} {f:α→β} {sz:Nat} {S:Nat→Prop} {B:Nat} {w:World} {l:List α} {v:Value} (h:RowG E sz S w l v) (hS:∀k,S k→k<w.heap.size→k<B)
  (hk:∀(x:α) (c:List Value),x∈l→E S w x c→P (f x) c):∃b m cap,v=.slice b m cap∧RowZ P sz B w (l.map f) b m cap:=by
 rcases h with ⟨rfl,rfl⟩ | ⟨g,cap,us,rfl,_,hlen,hs,hg,hc,hm,hcell,hw,hk2⟩
 ·exact ⟨none,0,0,rfl,rowZ_nil⟩
 ·exact ⟨_,_,_,rfl,rowZ_of hlen (hS g hs hg) hg hc hm hcell hw fun j x c hx hc'=>hk x c (List.mem_of_getElem? hx) (hk2 j x c hx hc')⟩
theorem ParIn.rowZ {S:Nat→Prop} {B:Nat} {w:World} {l:List Pm} {v:Value} (h:ParIn S w l v) (hS:∀k,S k→k<w.heap.size→k<B) (hok:okPm l=true):∃b m cap,v=.slice b m cap∧RowZ PmZ 2 B w l b m cap:=by
 have:=RowG.rowZ (P:=PmZ) (f:=fun x:Pm=>(x:List UInt8 × List UInt8)) h hS fun x c hx hc=>by
  have h1:=List.all_eq_true.1 hok x hx
  simp only [Bool.and_eq_true,decide_eq_true_eq] at h1
  exact ⟨hc,h1.1,h1.2⟩
 simpa using this
theorem PgIn.pz {S:Nat→Prop} {B:Nat} {w:World} {x:Pg} {v:Value} (h:PgIn S w x v) (hS:∀k,S k→k<w.heap.size→k<B) (hok:okPg x=true):PzIn B w (hiPg x) (pgz x) v:=by
 obtain ⟨vr,vf,rfl,h1,h2⟩:=h
 unfold okPg at hok
 rw [Bool.and_eq_true] at hok
 obtain ⟨b,m,cap,rfl,hr⟩:=h1.rowZ (P:=RzIn B w) (f:=rcz) hS fun x c hx hc=>by
  have h9:=List.all_eq_true.1 hok.1 x hx
  unfold okRc at h9
  simp only [Bool.and_eq_true,decide_eq_true_eq] at h9
  obtain ⟨vp,rfl,hp⟩:=hc
  obtain ⟨b,m,cap,rfl,hp2⟩:=ParIn.rowZ hp hS h9.2
  exact ⟨b,m,cap,rfl,h9.1,hp2⟩
 obtain ⟨b2,m2,cap2,rfl,hf⟩:=h2.rowZ (P:=FzIn B w (hiPg x)) (f:=fcz) hS fun y c hx hc=>by
  have h9:=List.all_eq_true.1 hok.2 y hx
  unfold okFc at h9
  simp only [Bool.and_eq_true,decide_eq_true_eq] at h9
  obtain ⟨vp,vb,rfl,hp,hb⟩:=hc
  obtain ⟨b,m,cap,rfl,hp2⟩:=ParIn.rowZ hp hS h9.1.2
  obtain ⟨g,cb,us,hr,hk⟩:=hb
  obtain ⟨b2,m2,cap2,rfl,hb2⟩:=hr.rowZ (f:=hiPg x) hS fun j z c hz hc=>StIn.sz (hk j z c hz hc) hS (hiPg x) c (by have:=hiSL_get hz;have:=hiPg_mem hx;unfold hiPg;omega) (okSL_get h9.2 hz) rfl
  exact ⟨b,m,cap,b2,m2,cap2,rfl,h9.1.1.1,h9.1.1.2,hp2,hb2⟩
 exact ⟨b,m,cap,b2,m2,cap2,rfl,hr,hf⟩
def exprC (f:Nat) (l:List UInt8):Ex × Nat × Nat :=
 if (scanC l).2.2≠0 then (noEx,(scanC l).2.1,(scanC l).2.2) else
 match pBetween f 1 (scanC l).1 with
 | none=>(noEx,0,99)
 | some res=>match wholeR res with
  | .error a=>(noEx,a,6)
  | .ok y=>if 24<depthE y then (noEx,0,7) else (y,0,0)
theorem isExpr_C {l:List UInt8} {x:Ex} {a e:Nat} (f:Nat) (hl:l.length≤4096) (h:IsExpr l x a e) (hd:(exprC f l).2.2≠99):exprC f l=(x,a,e):=by
 unfold IsExpr at h
 rw [scanB_C hl] at h
 unfold exprC at hd ⊢
 by_cases hc:(scanC l).2.2≠0
 ·rw [if_pos hc] at h ⊢
  obtain ⟨rfl,rfl,rfl⟩:=h
  rfl
 ·rw [if_neg hc] at h hd ⊢
  obtain ⟨f',res,h1,h2⟩:=h
  cases hp:pBetween f 1 (scanC l).1 with
  | none=>rw [hp] at hd;exact absurd rfl hd
  | some r2 =>
   obtain rfl:=pBetween_same hp h1
   cases hw:wholeR r2 with
   | error a=>rw [hw] at h2;obtain ⟨rfl,rfl,rfl⟩:=h2;simp only [hw]
   | ok y =>
    rw [hw] at h2
    simp only [hw] at h2 ⊢
    by_cases hdp:24<depthE y
    ·rw [if_pos hdp] at h2 ⊢;obtain ⟨rfl,rfl,rfl⟩:=h2;rfl
    ·rw [if_neg hdp] at h2 ⊢;obtain ⟨rfl,rfl,rfl⟩:=h2;rfl
theorem pProg_mono:∀(f:Nat) (rs:List Rc) (fs:List Fc) (ts:List Tk) (r:PR Pg),pProg f rs fs ts=some r→pProg (f+1) rs fs ts=some r
 | 0,_,_,_,_,h=>by cases h
 | f+1,rs,fs,ts,r,h=>by
  rw [pProg] at h ⊢
  split at h
  ·rename_i h0;rw [if_pos h0];exact h
  ·rename_i h0
   rw [if_neg h0]
   split at h
   ·rename_i h1
    rw [if_pos h1]
    exact thenP_mono h (fun _=>pRecord_mono) fun x us r hr=>pProg_mono f _ _ _ _ hr
   ·rename_i h1
    rw [if_neg h1]
    split at h
    ·rename_i h2
     rw [if_pos h2]
     exact thenP_mono h (fun _=>pFunc_mono) fun x us r hr=>pProg_mono f _ _ _ _ hr
    ·rename_i h2
     rw [if_neg h2];exact h
theorem pProg_up {f k:Nat} {rs:List Rc} {fs:List Fc} {ts:List Tk} {r:PR Pg} (h:pProg f rs fs ts=some r):pProg (f+k) rs fs ts=some r:=by
 induction k with
 | zero=>exact h
 | succ k ih=>exact pProg_mono _ _ _ _ _ ih
theorem pProg_same {f f':Nat} {rs:List Rc} {fs:List Fc} {ts:List Tk} {r r':PR Pg} (h:pProg f rs fs ts=some r) (h':pProg f' rs fs ts=some r'):r=r':=by
 have a:=pProg_up (k:=f') h
 have b:=pProg_up (k:=f) h'
 rw [Nat.add_comm] at b
 exact Option.some.inj (a.symm.trans b)
def progC (f:Nat) (l:List UInt8):Pg × Nat × Nat :=
 if (scanC l).2.2≠0 then (noPg,(scanC l).2.1,(scanC l).2.2) else
 match pProg f [] [] (scanC l).1 with
 | none=>(noPg,0,99)
 | some res=>match wholeG res with
  | .error a=>(noPg,a,6)
  | .ok y=>if 24<depthFs y.funs then (noPg,0,7) else (y,0,0)
theorem isProg_C {l:List UInt8} {x:Pg} {a e:Nat} (f:Nat) (hl:l.length≤4096) (h:IsProg l x a e) (hd:(progC f l).2.2≠99):progC f l=(x,a,e):=by
 unfold IsProg at h
 rw [scanB_C hl] at h
 unfold progC at hd ⊢
 by_cases hc:(scanC l).2.2≠0
 ·rw [if_pos hc] at h ⊢
  obtain ⟨rfl,rfl,rfl⟩:=h
  rfl
 ·rw [if_neg hc] at h hd ⊢
  obtain ⟨f',res,h1,h2⟩:=h
  cases hp:pProg f [] [] (scanC l).1 with
  | none=>rw [hp] at hd;exact absurd rfl hd
  | some r2 =>
   obtain rfl:=pProg_same hp h1
   cases hw:wholeG r2 with
   | error a=>rw [hw] at h2;obtain ⟨rfl,rfl,rfl⟩:=h2;simp only [hw]
   | ok y =>
    rw [hw] at h2
    simp only [hw] at h2 ⊢
    by_cases hdp:24<depthFs y.funs
    ·rw [if_pos hdp] at h2 ⊢;obtain ⟨rfl,rfl,rfl⟩:=h2;rfl
    ·rw [if_neg hdp] at h2 ⊢;obtain ⟨rfl,rfl,rfl⟩:=h2;rfl
def decF:Nat→Nat→List UInt8
 | 0,_=>[]
 | f+1,u=>if u<10 then [UInt8.ofNat (48+u)] else decF f (u / 10)++[UInt8.ofNat (48+u % 10)]
theorem decF_eq:∀(f u:Nat),u<f→Lib.decDigits u=decF f u
 | 0,u,h=>by omega
 | f+1,u,h=>by
  rw [Lib.decDigits,decF]
  by_cases h9:u<10
  ·rw [dif_pos h9,if_pos h9]
  ·rw [dif_neg h9,if_neg h9,decF_eq f _ (by omega)]
def wrC (k n:Int) (s:List UInt8):List UInt8:=if k=2 then (if n<0 then 45::decF (n.natAbs+1) n.natAbs else decF (n.toNat+1) n.toNat) else if k=3 then quoteB s else s
theorem wrC_eq (k n:Int) (s:List UInt8):wrB k n s=wrC k n s:=by
 unfold wrB wrC Lib.itoa
 rw [decF_eq (n.natAbs+1) _ (by omega),decF_eq (n.toNat+1) _ (by omega)]
def tokC (k n:Int) (s:List UInt8):Option (List UInt8) :=
 if (tokT (wrC k n s)).e=0∧((tokT (wrC k n s)).k:Int)=k∧(tokT (wrC k n s)).s=s∧((tokT (wrC k n s)).n:Int)=n then some (wrC k n s) else none
theorem tokC_eq (k n:Int) (s:List UInt8):tokO k n s=tokC k n s:=by
 unfold tokO tkB tokC
 by_cases h:backB k n s
 ·have h2:=h
  unfold backB at h2
  rw [wrC_eq] at h2
  rw [if_pos h,if_pos rfl,if_pos h2]
  show some (wrB k n s)=_
  rw [wrC_eq]
 ·have h2:=h
  unfold backB at h2
  rw [wrC_eq] at h2
  rw [if_neg h,if_neg h2]
  rfl
theorem tokO_C:tokO=tokC:=funext fun k=>funext fun n=>funext fun s=>tokC_eq k n s
def prG (tok:Int→Int→List UInt8→Option (List UInt8)):Nat→Ez→Option (List UInt8)
 | 0,_=>none
 | d+1,.mk k s n kids _ =>
  if isEx k s n kids.length=true then
   if k=1 then tok 2 n []
   else if k=2 then some (if n=0 then [102,97,108,115,101] else [116,114,117,101])
   else if k=3 then tok 3 0 s
   else if k=4 then tok 1 0 s
   else if k=5 then thenO (tok 1 0 s) (thenO (some [40]) (thenO (rowO (kids.map (prG tok d)) kids.length) (some [41])))
   else if k=11 then thenO (some [110,101,119,32]) (thenO (tok 1 0 s) (thenO (some [40]) (thenO (rowO (kids.map (prG tok d)) kids.length) (some [41]))))
   else if k=10 then thenO (some [91]) (thenO (rowO (kids.map (prG tok d)) kids.length) (some [93]))
   else if k=6 then match kids with
    | a::_=>thenO (some s) (kidO a 7 (prG tok d a))
    | _=>none
   else if k=7 then match kids with
    | a::b::_=>thenO (kidO a (levelOf s) (prG tok d a)) (thenO (some [32]) (thenO (some s) (thenO (some [32]) (kidO b (levelOf s+1) (prG tok d b)))))
    | _=>none
   else if k=8 then match kids with
    | a::b::_=>thenO (kidO a 8 (prG tok d a)) (thenO (some [91]) (thenO (prG tok d b) (some [93])))
    | _=>none
   else if k=9 then match kids with
    | a::_=>thenO (kidO a 8 (prG tok d a)) (thenO (some [46]) (tok 1 0 s))
    | _=>none
   else none
  else none
theorem prG_eq:∀d,prE d=prG tokO d
 | 0=>rfl
 | d+1=>by
  funext x
  obtain ⟨k,s,n,kids,line⟩:=x
  unfold prE prG
  rw [prG_eq d]
  rfl
theorem prE_C (d:Nat):prE d=prG tokC d:=by rw [prG_eq,tokO_C]
def tx1:List UInt8:=[49,45,40,50,45,51,41]
def tx2:List UInt8:=[40,49,45,50,41,45,51]
def tx3:List UInt8:=[45,97,46,98,91,48,93]
def tx4:List UInt8:=[40,45,97,41,46,98]
def tx5:List UInt8:=[33,40,120,38,38,121,41]
def ty1:List UInt8:=[49,32,45,32,40,50,32,45,32,51,41]
def ty2:List UInt8:=[49,32,45,32,50,32,45,32,51]
def ty5:List UInt8:=[33,40,120,32,38,38,32,121,41]
def txEr:List UInt8:=[49,43]
def txF:List UInt8:=[102,110,32,102,40,41,123,49,61,50,59,125]
def txP:List UInt8:=[114,101,99,111,114,100,32,80,123,120,58,105,110,116,125,10,102,110,32,102,40,97,58,91,105,110,116,93,41,58,105,110,116,123,114,101,116,117,114,110,32,97,91,48,93,59,125]
def tyP:List UInt8:=[114,101,99,111,114,100,32,80,32,123,32,120,58,32,105,110,116,32,125,10,102,110,32,102,40,97,58,32,91,105,110,116,93,41,58,32,105,110,116,32,123,10,114,101,116,117,114,110,32,97,91,48,93,59,10,125,10]
theorem cx1:exprC 60 tx1=((exprC 60 tx1).1,0,0)∧okE (exprC 60 tx1).1=true:=by constructor <;> kernel_rfl
theorem cx2:exprC 60 tx2=((exprC 60 tx2).1,0,0)∧okE (exprC 60 tx2).1=true:=by constructor <;> kernel_rfl
theorem cx3:exprC 60 tx3=((exprC 60 tx3).1,0,0)∧okE (exprC 60 tx3).1=true:=by constructor <;> kernel_rfl
theorem cx4:exprC 60 tx4=((exprC 60 tx4).1,0,0)∧okE (exprC 60 tx4).1=true:=by constructor <;> kernel_rfl
theorem cx5:exprC 60 tx5=((exprC 60 tx5).1,0,0)∧okE (exprC 60 tx5).1=true:=by constructor <;> kernel_rfl
theorem cp1:prR (prE 24 (exz (exprC 60 tx1).1))=(ty1,0):=by rw [prE_C];kernel_rfl
theorem cp2:prR (prE 24 (exz (exprC 60 tx2).1))=(ty2,0):=by rw [prE_C];kernel_rfl
theorem cp3:prR (prE 24 (exz (exprC 60 tx3).1))=(tx3,0):=by rw [prE_C];kernel_rfl
theorem cp4:prR (prE 24 (exz (exprC 60 tx4).1))=(tx4,0):=by rw [prE_C];kernel_rfl
theorem cp5:prR (prE 24 (exz (exprC 60 tx5).1))=(ty5,0):=by rw [prE_C];kernel_rfl
theorem cxE:exprC 60 txEr=(noEx,2,6):=by kernel_rfl
theorem cxF:progC 60 txF=(noPg,8,6):=by kernel_rfl
theorem cxP:progC 60 txP=((progC 60 txP).1,0,0)∧okPg (progC 60 txP).1=true:=by constructor <;> kernel_rfl
theorem cpP:prR (prgO (pgz (progC 60 txP).1))=(tyP,0):=by kernel_rfl
end Go.Proofs.YtghhamgealkodaaGreatDoor
