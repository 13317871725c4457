import Derived.Test.YtdgpapchkpnijaaGreatDoorMC32
import Derived.Test.YtdgpapchkpnijaaGreatDoorMC13
import Derived.Test.YtdgpapchkpnijaaGreatDoorMC4
namespace Go.Proofs.YtdgpapchkpnijaaGreatDoor
open Go.RowKit Go.Shelf
set_option maxHeartbeats 16000000
set_option maxRecDepth 100000
theorem zdc (l:List UInt8) (w:World) (ht:yE w) (hl:Zy w) (he:Y7 w) :
  Calls Tryz.prog 9 #[.string (za l)] w fun e w' =>
   ∃(x:Pg) (at0 err:Nat) (v:Value),e=.returned (.tuple #[v,.int .i64 at0,.int .i64 err])∧Yn l x at0 err∧Yx w.heap.size w' x v∧Below w.heap.size w w':=by
 have hb:Below w.heap.size w (w.alloc Xd):=(Below.refl w.heap.size w).alloc (Nat.le_refl _) _;have cr:=zfB l (w.alloc Xd) (ht.below hb (Nat.le_refl _)) (fun j v hj=>zj (hl j v hj) _) (zj he _)
 go_enter Tryz.func9,Tryz.ntmps9
 go_wp2_with fail
 refine cr.mono ?_;clear cr;rintro e w1 ⟨x,at0,err,v,rfl,hI,hx,hb1⟩;obtain ⟨s0,s1,s2,d0,d1,d2,rfl⟩:=hx.agg;have hsz:(w.alloc Xd).heap.size=w.heap.size+1:=by simp
 rw [hsz] at hx hb1;have p0:w1.heap[w.heap.size]?=some Xd:=(hb1.block w.heap.size (by omega)).trans (World.alloc_heap_new w _)
 obtain ⟨q0,q1,qf⟩:=ZL p0;obtain ⟨z0,z1⟩:=xm p0 (.slice s0 s1 s2) (.slice d0 d1 d2);have hb2:Below w.heap.size w w1:=hb.trans (hb1.mono (by omega))
 have HB:Hid (Below w.heap.size w (XJ w1 w.heap.size (.slice s0 s1 s2) (.slice d0 d1 d2))) :=
  (hb2.setCell (p:=⟨w.heap.size,0,none⟩) (by simp) _).setCell (p:=⟨w.heap.size,1,none⟩) (by simp) _
 have HX:Hid (Yx w.heap.size (XJ w1 w.heap.size (.slice s0 s1 s2) (.slice d0 d1 d2)) x (.agg #[.slice s0 s1 s2,.slice d0 d1 d2])) :=
  Yx.mono (Yx.kept hx (w':=XJ w1 w.heap.size (.slice s0 s1 s2) (.slice d0 d1 d2)) (by simp) fun j hj _=>Vz _ _ _ _ (by omega)) (by omega)
 have HI:Hid (Yn l x at0 err):=hI;clear hb hb2 hx hb1 hI p0 ht hl he;go_wp2
 exact bodyPost_ret (v:=.tuple #[.agg #[.slice s0 s1 s2,.slice d0 d1 d2],.int .i64 at0,.int .i64 err]) (by simp [results,Tryz.results9,go_sem,z0,z1]) rfl ⟨x,at0,err,_,rfl,HI.out,HX.out,HB.out⟩
theorem zdd (l:List UInt8) (w:World) (ht:yE w) (hl:Zy w) (he:Y7 w) :
  Calls Tryz.prog 15 #[.string (za l)] w fun e w' =>
   ∃(x:Ex) (at0 err:Nat) (v:Value),e=.returned (.tuple #[v,.int .i64 at0,.int .i64 err])∧Zx l x at0 err∧Zc w.heap.size w' x v∧Below w.heap.size w w':=by
 have hb:Below w.heap.size w (w.alloc Ze):=(Below.refl w.heap.size w).alloc (Nat.le_refl _) _;have cr:=zfA l (w.alloc Ze) (ht.below hb (Nat.le_refl _)) (fun j v hj=>zj (hl j v hj) _) (zj he _)
 go_enter Tryz.func15,Tryz.ntmps15
 go_wp2_with fail
 refine cr.mono ?_;clear cr;rintro e w1 ⟨x,at0,err,v,rfl,hI,hx,hb1⟩;obtain ⟨a,b,c,d0,d1,d2,k,rfl⟩:=hx.agg;have hsz:(w.alloc Ze).heap.size=w.heap.size+1:=by simp
 rw [hsz] at hx hb1;have p0:w1.heap[w.heap.size]?=some Ze:=(hb1.block w.heap.size (by omega)).trans (World.alloc_heap_new w _)
 obtain ⟨q0,q1,q2,q3,q4,qf⟩:=zl p0;obtain ⟨z0,z1,z2,z3,z4⟩:=zt p0 (.int .i64 a) (.string b) (.int .i64 c) (.slice d0 d1 d2) (.int .i64 k);have hb2:Below w.heap.size w w1:=hb.trans (hb1.mono (by omega))
 have HB:Hid (Below w.heap.size w (set5 w1 w.heap.size (.int .i64 a) (.string b) (.int .i64 c) (.slice d0 d1 d2) (.int .i64 k))) :=
  ((((hb2.setCell (p:=⟨w.heap.size,0,none⟩) (by simp) _).setCell (p:=⟨w.heap.size,1,none⟩) (by simp) _).setCell (p:=⟨w.heap.size,2,none⟩) (by simp) _).setCell (p:=⟨w.heap.size,3,none⟩) (by simp) _).setCell (p:=⟨w.heap.size,4,none⟩) (by simp) _
 have HX:Hid (Zc w.heap.size (set5 w1 w.heap.size (.int .i64 a) (.string b) (.int .i64 c) (.slice d0 d1 d2) (.int .i64 k)) x (.agg #[.int .i64 a,.string b,.int .i64 c,.slice d0 d1 d2,.int .i64 k])) :=
  Zc.mono (Zc.kept hx (w':=set5 w1 w.heap.size (.int .i64 a) (.string b) (.int .i64 c) (.slice d0 d1 d2) (.int .i64 k)) (by simp) fun j hj _=>zr _ _ _ _ _ _ _ (by omega)) (by omega)
 have HI:Hid (Zx l x at0 err):=hI;clear hb hb2 hx hb1 hI p0 ht hl he;go_wp2
 exact bodyPost_ret (v:=.tuple #[.agg #[.int .i64 a,.string b,.int .i64 c,.slice d0 d1 d2,.int .i64 k],.int .i64 at0,.int .i64 err]) (by simp [results,Tryz.results15,go_sem,z0,z1,z2,z3,z4]) rfl ⟨x,at0,err,_,rfl,HI.out,HX.out,HB.out⟩
mutual
def UU:Ex→Ez
 | .mk k s n kids line=>.mk k s n (v8 kids) line
def v8:List Ex→List Ez
 | []=>[]
 | x::xs=>UU x::v8 xs
end
theorem uJ (l:List Ex):v8 l=l.map UU:=by
 induction l with
 | nil=>rfl
 | cons x xs ih=>rw [v8,ih];rfl
mutual
def Va:Ex→Bool
 | .mk _ s n kids _=>decide (s.length≤100000000)&&decide (-9223372036854775808≤n)&&decide (n≤9223372036854775807)&&qF kids
def qF:List Ex→Bool
 | []=>true
 | x::xs=>Va x&&qF xs
end
theorem zbl {l:List Ex} (h:qF l=true):∀{i:Nat} {x:Ex},l[i]?=some x→Va x=true:=by
 induction l with
 | nil=>intro i x hx;simp at hx
 | cons y ys ih =>
  intro i x hx;rw [qF,Bool.and_eq_true] at h;cases i with
  | zero=>simp only [List.getElem?_cons_zero,Option.some.injEq] at hx;subst hx;exact h.1
  | succ i=>exact ih h.2 (by simpa using hx)
theorem zQ.ez {S:Nat→Prop} {B:Nat} {w:World} {x:Ex} {v:Value} (h:zQ S w x v) (hS:∀k,S k→k<w.heap.size→k<B) (hok:Va x=true):Zs B w (UU x) v:=by
 induction h with
 | leaf k s n line =>
  rw [Va] at hok;simp only [Bool.and_eq_true,decide_eq_true_eq] at hok;exact Zs.mk (k:Int) s n [] (line:Int) none 0 0 0 [] hok.1.1.1 hok.1.1.2 hok.1.2 (fun h=>absurd rfl h) rfl (Nat.le_refl _) (Nat.zero_le _) (fun j u hj=>by simp at hj) (fun c hc=>by simp at hc) (fun j x c hx=>by simp at hx)
 | node k s n kids line g cap us hne hlen hB hg hc hm hcell hfive _ ih =>
  rw [Va] at hok;simp only [Bool.and_eq_true,decide_eq_true_eq] at hok;have e:(v8 kids).length=kids.length:=by rw [uJ,List.length_map]
  have:=Zs.mk (B:=B) (w:=w) (k:Int) s n (v8 kids) (line:Int) (some ⟨g,0,none⟩) cap g 0 us hok.1.1.1 hok.1.1.2 hok.1.2 (fun _=>⟨rfl,hS g hB hg,hg⟩) (by rw [e];exact hlen) (by rw [e];exact hc) hm (fun j u hj=>by rw [Nat.zero_add];exact hcell j u hj) hfive (fun j x c hx hc'=>by
   rw [uJ,List.getElem?_map] at hx;cases hy:kids[j]? with
   | none=>rw [hy] at hx;simp at hx
   | some y =>
    rw [hy] at hx;simp only [Option.map_some,Option.some.injEq] at hx;subst hx
    exact ih j y c hy hc' (zbl hok.2 hy))
  rw [e] at this;exact this
mutual
def stz:St→Sz
 | .mk k s es body els line=>.mk k s (v8 es) (zaR body) (zaR els) line
def zaR:List St→List Sz
 | []=>[]
 | x::xs=>stz x::zaR xs
end
theorem zde (l:List St):zaR l=l.map stz:=by
 induction l with
 | nil=>rfl
 | cons x xs ih=>rw [zaR,ih];rfl
mutual
def okS:St→Bool
 | .mk _ s es body els _=>decide (s.length≤100000000)&&qF es&&zca body&&zca els
def zca:List St→Bool
 | []=>true
 | x::xs=>okS x&&zca xs
end
theorem uK {l:List St} (h:zca l=true):∀{i:Nat} {x:St},l[i]?=some x→okS x=true:=by
 induction l with
 | nil=>intro i x hx;simp at hx
 | cons y ys ih =>
  intro i x hx;rw [zca,Bool.and_eq_true] at h;cases i with
  | zero=>simp only [List.getElem?_cons_zero,Option.some.injEq] at hx;subst hx;exact h.1
  | succ i=>exact ih h.2 (by simpa using hx)
mutual
def hiS:St→Nat
 | .mk _ _ _ body els _=>1+max (QM body) (QM els)
def QM:List St→Nat
 | []=>0
 | x::xs=>max (hiS x) (QM xs)
end
theorem uL {l:List St}:∀{i:Nat} {x:St},l[i]?=some x→hiS x≤QM l:=by
 induction l with
 | nil=>intro i x hx;simp at hx
 | cons y ys ih =>
  intro i x hx;rw [QM];cases i with
  | zero=>simp only [List.getElem?_cons_zero,Option.some.injEq] at hx;subst hx;omega
  | succ i=>have:=ih (i:=i) (x:=x) (by simpa using hx);omega
theorem qt {α β:Type} {P:β→List Value→Prop} {f:α→β} {sz B g cap:Nat} {w:World} {l:List α} {us:List (List Value)} (hlen:us.length=l.length) (hB:g<B) (hg:g<w.heap.size) (hc:l.length≤cap) (hm:cap≤maxLen) (hcell:∀j u,us.flatten[j]?=some u→w.cell? ⟨g,j,none⟩=some u) (hw:∀c∈us,c.length=sz)
  (hk:∀(j:Nat) (x:α) (c:List Value),l[j]?=some x→us[j]?=some c→P (f x) c):ZR P sz B w (l.map f) (some ⟨g,0,none⟩) l.length cap:=by
 refine ⟨by rw [List.length_map],by rw [List.length_map];exact hc,hm,fun i x hx=>?_⟩
 rw [List.getElem?_map] at hx;cases hy:l[i]? with
 | none=>rw [hy] at hx;simp at hx
 | some y =>
  rw [hy] at hx;simp only [Option.map_some,Option.some.injEq] at hx;subst hx;have hi:i<l.length:=(List.getElem?_eq_some_iff.1 hy).1;obtain ⟨c,hc'⟩:∃c,us[i]?=some c:=⟨us[i]'(by omega),List.getElem?_eq_getElem (by omega)⟩
  have hcl:c.length=sz:=hw c (List.mem_of_getElem? hc');refine ⟨g,0,c,rfl,hB,hg,hcl,hk i y c hy hc',fun j u hj=>?_⟩
  have hjl:j<sz:=by rw [←hcl];exact (List.getElem?_eq_some_iff.1 hj).1
  rw [Nat.zero_add];exact hcell _ _ ((zes hw hc' hjl).trans hj)
theorem uM {α β:Type} {P:β→List Value→Prop} {f:α→β} {sz B:Nat} {w:World}:ZR P sz B w (([]:List α).map f) none 0 0:=⟨rfl,Nat.le_refl _,Nat.zero_le _,fun i x hx=>by simp at hx⟩
theorem zG.rowZ {S:Nat→Prop} {B:Nat} {w:World} {l:List Ex} {v:Value} (h:zG S w l v) (hS:∀k,S k→k<w.heap.size→k<B) (hok:qF l=true):∃b m cap,v=.slice b m cap∧ZR (EzC B w) 5 B w (v8 l) b m cap:=by
 rw [uJ];rcases h with ⟨rfl,rfl⟩ | ⟨g,cap,us,rfl,_,hlen,hs,hg,hc,hm,hcell,hw,hk⟩
 ·exact ⟨none,0,0,rfl,uM⟩
 ·exact ⟨_,_,_,rfl,qt hlen (hS g hs hg) hg hc hm hcell hw fun j x c hx hc'=>zQ.ez (hk j x c hx hc') hS (zbl hok hx)⟩
theorem xz.rowZ {S:Nat→Prop} {B f:Nat} {w:World} {l:List St} {v:Value} {g cap:Nat} {us:List (List Value)} (h:xz S w l v g cap us) (hS:∀k,S k→k<w.heap.size→k<B)
  (hk:∀(j:Nat) (x:St) (c:List Value),l[j]?=some x→us[j]?=some c→Yl B w f (stz x) c):∃b m cap,v=.slice b m cap∧ZR (Yl B w f) 6 B w (zaR l) b m cap:=by
 rw [zde];rcases h with ⟨rfl,rfl⟩ | ⟨rfl,_,hlen,hs,hg,hc,hm,hcell,hw⟩
 ·exact ⟨none,0,0,rfl,uM⟩
 ·exact ⟨_,_,_,rfl,qt hlen (hS g hs hg) hg hc hm hcell hw hk⟩
theorem yp.sz {S:Nat→Prop} {B:Nat} {w:World} {x:St} {v:Value} (h:yp S w x v) (hS:∀k,S k→k<w.heap.size→k<B):∀(f:Nat) (c:List Value),hiS x≤f→okS x=true→v=.agg c.toArray→Yl B w f (stz x) c:=by
 induction h with
 | mk k s es body els line ve vb vl gb cb gl cl ub ul he hbr hbk hl hlk ih1 ih2 =>
  intro f c hf hok hv;rw [hiS] at hf;rw [okS] at hok;simp only [Bool.and_eq_true,decide_eq_true_eq] at hok;obtain ⟨f,rfl⟩:∃f',f=f'+1:=⟨f-1,by omega⟩
  obtain ⟨be,me,ce,rfl,h1⟩:=he.rowZ hS hok.1.1.2;obtain ⟨bb,mb,cb',rfl,h2⟩:=hbr.rowZ (f:=f) hS fun j x c hx hc=>ih1 j x c hx hc f c (by have:=uL hx;omega) (uK hok.1.2 hx) rfl
  obtain ⟨bl,ml,cl',rfl,h3⟩:=hl.rowZ (f:=f) hS fun j x c hx hc=>ih2 j x c hx hc f c (by have:=uL hx;omega) (uK hok.2 hx) rfl
  have hcl:c=[.int .i64 k,.string (za s),.slice be me ce,.slice bb mb cb',.slice bl ml cl',.int .i64 line]:=by
   have:=congrArg (fun v=>match v with | .agg a=>a.toList | _=>[]) hv
   simpa using this.symm
  exact ⟨be,me,ce,bb,mb,cb',bl,ml,cl',hcl,hok.1.1.1,h1,h2,h3⟩
def rcz (x:Rc):Rz:=⟨x.name,x.fields,x.line⟩
def fcz (x:Fc):Fz:=⟨x.name,x.params,x.result,zaR x.body,x.line⟩
def pgz (x:Pg):Pz:=⟨x.recs.map rcz,x.funs.map fcz⟩
def zeY (l:List Pm):Bool:=l.all fun p=>decide (p.1.length≤100000000)&&decide (p.2.length≤100000000)
def zfC (x:Rc):Bool:=decide (x.name.length≤100000000)&&zeY x.fields
def zfD (x:Fc):Bool:=decide (x.name.length≤100000000)&&decide (x.result.length≤100000000)&&zeY x.params&&zca x.body
def zeZ (x:Pg):Bool:=x.recs.all zfC&&x.funs.all zfD
def zcb (x:Pg):Nat:=(x.funs.map fun y=>QM y.body).foldr max 0
theorem zdf {l:List Fc} {y:Fc} (h:y∈l):QM y.body≤(l.map fun y=>QM y.body).foldr max 0:=by
 induction l with
 | nil=>simp at h
 | cons z zs ih =>
  rw [List.map_cons,List.foldr_cons];rcases List.mem_cons.1 h with rfl | h
  ·omega
  ·have:=ih h;omega
theorem Xw.rowZ {α β:Type} {E:(Nat→Prop)→World→α→List Value→Prop} {P:β→List Value→Prop} {f:α→β} {sz:Nat} {S:Nat→Prop} {B:Nat} {w:World} {l:List α} {v:Value} (h:Xw E sz S w l v) (hS:∀k,S k→k<w.heap.size→k<B)
  (hk:∀(x:α) (c:List Value),x∈l→E S w x c→P (f x) c):∃b m cap,v=.slice b m cap∧ZR P sz B w (l.map f) b m cap:=by
 rcases h with ⟨rfl,rfl⟩ | ⟨g,cap,us,rfl,_,hlen,hs,hg,hc,hm,hcell,hw,hk2⟩
 ·exact ⟨none,0,0,rfl,uM⟩
 ·exact ⟨_,_,_,rfl,qt hlen (hS g hs hg) hg hc hm hcell hw fun j x c hx hc'=>hk x c (List.mem_of_getElem? hx) (hk2 j x c hx hc')⟩
theorem uD.rowZ {S:Nat→Prop} {B:Nat} {w:World} {l:List Pm} {v:Value} (h:uD S w l v) (hS:∀k,S k→k<w.heap.size→k<B) (hok:zeY l=true):∃b m cap,v=.slice b m cap∧ZR PmZ 2 B w l b m cap:=by
 have:=Xw.rowZ (P:=PmZ) (f:=fun x:Pm=>(x:List UInt8 × List UInt8)) h hS fun x c hx hc=>by
  have h1:=List.all_eq_true.1 hok x hx;simp only [Bool.and_eq_true,decide_eq_true_eq] at h1;exact ⟨hc,h1.1,h1.2⟩
 simpa using this
theorem Xx.pz {S:Nat→Prop} {B:Nat} {w:World} {x:Pg} {v:Value} (h:Xx S w x v) (hS:∀k,S k→k<w.heap.size→k<B) (hok:zeZ x=true):Uh B w (zcb x) (pgz x) v:=by
 obtain ⟨vr,vf,rfl,h1,h2⟩:=h
 unfold zeZ at hok
 rw [Bool.and_eq_true] at hok
 obtain ⟨b,m,cap,rfl,hr⟩:=h1.rowZ (P:=XS B w) (f:=rcz) hS fun x c hx hc=>by
  have h9:=List.all_eq_true.1 hok.1 x hx
  unfold zfC at h9
  simp only [Bool.and_eq_true,decide_eq_true_eq] at h9;obtain ⟨vp,rfl,hp⟩:=hc;obtain ⟨b,m,cap,rfl,hp2⟩:=uD.rowZ hp hS h9.2;exact ⟨b,m,cap,rfl,h9.1,hp2⟩
 obtain ⟨b2,m2,cap2,rfl,hf⟩:=h2.rowZ (P:=XT B w (zcb x)) (f:=fcz) hS fun y c hx hc=>by
  have h9:=List.all_eq_true.1 hok.2 y hx
  unfold zfD at h9
  simp only [Bool.and_eq_true,decide_eq_true_eq] at h9;obtain ⟨vp,vb,rfl,hp,hb⟩:=hc;obtain ⟨b,m,cap,rfl,hp2⟩:=uD.rowZ hp hS h9.1.2;obtain ⟨g,cb,us,hr,hk⟩:=hb;obtain ⟨b2,m2,cap2,rfl,hb2⟩:=hr.rowZ (f:=zcb x) hS fun j z c hz hc=>yp.sz (hk j z c hz hc) hS (zcb x) c (by have:=uL hz;have:=zdf hx;unfold zcb;omega) (uK h9.2 hz) rfl
  exact ⟨b,m,cap,b2,m2,cap2,rfl,h9.1.1.1,h9.1.1.2,hp2,hb2⟩
 exact ⟨b,m,cap,b2,m2,cap2,rfl,hr,hf⟩
def yC (f:Nat) (l:List UInt8):Ex × Nat × Nat :=
 if (xt l).2.2≠0 then (yZ,(xt l).2.1,(xt l).2.2) else
 match zh f 1 (xt l).1 with
 | none=>(yZ,0,99)
 | some res=>match Z2 res with
  | .error a=>(yZ,a,6)
  | .ok y=>if 24<depthE y then (yZ,0,7) else (y,0,0)
theorem QN {l:List UInt8} {x:Ex} {a e:Nat} (f:Nat) (hl:l.length≤4096) (h:Zx l x a e) (hd:(yC f l).2.2≠99):yC f l=(x,a,e):=by
 unfold Zx at h
 rw [zbb hl] at h
 unfold yC at hd ⊢
 by_cases hc:(xt l).2.2≠0
 ·rw [if_pos hc] at h ⊢
  obtain ⟨rfl,rfl,rfl⟩:=h
  rfl
 ·rw [if_neg hc] at h hd ⊢
  obtain ⟨f',res,h1,h2⟩:=h;cases hp:zh f 1 (xt l).1 with
  | none=>rw [hp] at hd;exact absurd rfl hd
  | some r2 =>
   obtain rfl:=xI hp h1;cases hw:Z2 r2 with
   | error a=>rw [hw] at h2;obtain ⟨rfl,rfl,rfl⟩:=h2;simp only [hw]
   | ok y =>
    rw [hw] at h2;simp only [hw] at h2 ⊢
    by_cases hdp:24<depthE y
    ·rw [if_pos hdp] at h2 ⊢;obtain ⟨rfl,rfl,rfl⟩:=h2;rfl
    ·rw [if_neg hdp] at h2 ⊢;obtain ⟨rfl,rfl,rfl⟩:=h2;rfl
theorem vJ:∀(f:Nat) (rs:List Rc) (fs:List Fc) (ts:List Tk) (r:PR Pg),ZS f rs fs ts=some r→ZS (f+1) rs fs ts=some r
 | 0,_,_,_,_,h=>by cases h
 | f+1,rs,fs,ts,r,h=>by
  rw [ZS] at h ⊢
  split at h
  ·rename_i h0;rw [if_pos h0];exact h
  ·rename_i h0
   rw [if_neg h0]
   split at h
   ·rename_i h1
    rw [if_pos h1];exact zD h (fun _=>vY) fun x us r hr=>vJ f _ _ _ _ hr
   ·rename_i h1
    rw [if_neg h1]
    split at h
    ·rename_i h2
     rw [if_pos h2];exact zD h (fun _=>uE) fun x us r hr=>vJ f _ _ _ _ hr
    ·rename_i h2
     rw [if_neg h2];exact h
theorem QO {f k:Nat} {rs:List Rc} {fs:List Fc} {ts:List Tk} {r:PR Pg} (h:ZS f rs fs ts=some r):ZS (f+k) rs fs ts=some r:=by
 induction k with
 | zero=>exact h
 | succ k ih=>exact vJ _ _ _ _ _ ih
theorem zaS {f f':Nat} {rs:List Rc} {fs:List Fc} {ts:List Tk} {r r':PR Pg} (h:ZS f rs fs ts=some r) (h':ZS f' rs fs ts=some r'):r=r':=by
 have a:=QO (k:=f') h;have b:=QO (k:=f) h';rw [Nat.add_comm] at b;exact Option.some.inj (a.symm.trans b)
def Vb (f:Nat) (l:List UInt8):Pg × Nat × Nat :=
 if (xt l).2.2≠0 then (xY,(xt l).2.1,(xt l).2.2) else
 match ZS f [] [] (xt l).1 with
 | none=>(xY,0,99)
 | some res=>match Yb res with
  | .error a=>(xY,a,6)
  | .ok y=>if 24<depthFs y.funs then (xY,0,7) else (y,0,0)
theorem QP {l:List UInt8} {x:Pg} {a e:Nat} (f:Nat) (hl:l.length≤4096) (h:Yn l x a e) (hd:(Vb f l).2.2≠99):Vb f l=(x,a,e):=by
 unfold Yn at h
 rw [zbb hl] at h
 unfold Vb at hd ⊢
 by_cases hc:(xt l).2.2≠0
 ·rw [if_pos hc] at h ⊢
  obtain ⟨rfl,rfl,rfl⟩:=h
  rfl
 ·rw [if_neg hc] at h hd ⊢
  obtain ⟨f',res,h1,h2⟩:=h;cases hp:ZS f [] [] (xt l).1 with
  | none=>rw [hp] at hd;exact absurd rfl hd
  | some r2 =>
   obtain rfl:=zaS hp h1;cases hw:Yb r2 with
   | error a=>rw [hw] at h2;obtain ⟨rfl,rfl,rfl⟩:=h2;simp only [hw]
   | ok y =>
    rw [hw] at h2;simp only [hw] at h2 ⊢
    by_cases hdp:24<depthFs y.funs
    ·rw [if_pos hdp] at h2 ⊢;obtain ⟨rfl,rfl,rfl⟩:=h2;rfl
    ·rw [if_neg hdp] at h2 ⊢;obtain ⟨rfl,rfl,rfl⟩:=h2;rfl
def zdg:Nat→Nat→List UInt8
 | 0,_=>[]
 | f+1,u=>if u<10 then [UInt8.ofNat (48+u)] else zdg f (u / 10)++[UInt8.ofNat (48+u % 10)]
theorem qu:∀(f u:Nat),u<f→Lib.decDigits u=zdg f u
 | 0,u,h=>by omega
 | f+1,u,h=>by
  rw [Lib.decDigits,zdg]
  by_cases h9:u<10
  ·rw [dif_pos h9,if_pos h9]
  ·rw [dif_neg h9,if_neg h9,qu f _ (by omega)]
def wrC (k n:Int) (s:List UInt8):List UInt8:=if k=2 then (if n<0 then 45::zdg (n.natAbs+1) n.natAbs else zdg (n.toNat+1) n.toNat) else if k=3 then yq s else s
theorem zaT (k n:Int) (s:List UInt8):vq k n s=wrC k n s:=by
 unfold vq wrC Lib.itoa
 rw [qu (n.natAbs+1) _ (by omega),qu (n.toNat+1) _ (by omega)]
def zec (k n:Int) (s:List UInt8):Option (List UInt8) :=
 if (zR (wrC k n s)).e=0∧((zR (wrC k n s)).k:Int)=k∧(zR (wrC k n s)).s=s∧((zR (wrC k n s)).n:Int)=n then some (wrC k n s) else none
theorem zed (k n:Int) (s:List UInt8):tokO k n s=zec k n s:=by
 unfold tokO tkB zec
 by_cases h:YS k n s
 ·have h2:=h
  unfold YS at h2
  rw [zaT] at h2;rw [if_pos h,if_pos rfl,if_pos h2];show some (vq k n s)=_
  rw [zaT]
 ·have h2:=h
  unfold YS at h2
  rw [zaT] at h2;rw [if_neg h,if_neg h2]
  rfl
theorem ze1:tokO=zec:=funext fun k=>funext fun n=>funext fun s=>zed k n s
def prG (tok:Int→Int→List UInt8→Option (List UInt8)):Nat→Ez→Option (List UInt8)
 | 0,_=>none
 | d+1,.mk k s n kids _ =>
  if YP k s n kids.length=true then
   if k=1 then tok 2 n []
   else if k=2 then some (if n=0 then [102,97,108,115,101] else [116,114,117,101])
   else if k=3 then tok 3 0 s
   else if k=4 then tok 1 0 s
   else if k=5 then zc (tok 1 0 s) (zc (some [40]) (zc (rowO (kids.map (prG tok d)) kids.length) (some [41])))
   else if k=11 then zc (some [110,101,119,32]) (zc (tok 1 0 s) (zc (some [40]) (zc (rowO (kids.map (prG tok d)) kids.length) (some [41]))))
   else if k=10 then zc (some [91]) (zc (rowO (kids.map (prG tok d)) kids.length) (some [93]))
   else if k=6 then match kids with
    | a::_=>zc (some s) (kidO a 7 (prG tok d a))
    | _=>none
   else if k=7 then match kids with
    | a::b::_=>zc (kidO a (levelOf s) (prG tok d a)) (zc (some [32]) (zc (some s) (zc (some [32]) (kidO b (levelOf s+1) (prG tok d b)))))
    | _=>none
   else if k=8 then match kids with
    | a::b::_=>zc (kidO a 8 (prG tok d a)) (zc (some [91]) (zc (prG tok d b) (some [93])))
    | _=>none
   else if k=9 then match kids with
    | a::_=>zc (kidO a 8 (prG tok d a)) (zc (some [46]) (tok 1 0 s))
    | _=>none
   else none
  else none
theorem zdh:∀d,prE d=prG tokO d
 | 0=>rfl
 | d+1=>by
  funext x
  obtain ⟨k,s,n,kids,line⟩:=x
  unfold prE prG
  rw [zdh d]
  rfl
theorem QQ (d:Nat):prE d=prG zec d:=by rw [zdh,ze1]
def tx1:List UInt8:=[49,45,40,50,45,51,41]
def tx2:List UInt8:=[40,49,45,50,41,45,51]
def tx3:List UInt8:=[45,97,46,98,91,48,93]
def tx4:List UInt8:=[40,45,97,41,46,98]
def tx5:List UInt8:=[33,40,120,38,38,121,41]
def ty1:List UInt8:=[49,32,45,32,40,50,32,45,32,51,41]
def ty2:List UInt8:=[49,32,45,32,50,32,45,32,51]
def ty5:List UInt8:=[33,40,120,32,38,38,32,121,41]
def zfH:List UInt8:=[49,43]
def txF:List UInt8:=[102,110,32,102,40,41,123,49,61,50,59,125]
def txP:List UInt8:=[114,101,99,111,114,100,32,80,123,120,58,105,110,116,125,10,102,110,32,102,40,97,58,91,105,110,116,93,41,58,105,110,116,123,114,101,116,117,114,110,32,97,91,48,93,59,125]
def tyP:List UInt8:=[114,101,99,111,114,100,32,80,32,123,32,120,58,32,105,110,116,32,125,10,102,110,32,102,40,97,58,32,91,105,110,116,93,41,58,32,105,110,116,32,123,10,114,101,116,117,114,110,32,97,91,48,93,59,10,125,10]
theorem cx1:yC 60 tx1=((yC 60 tx1).1,0,0)∧Va (yC 60 tx1).1=true:=by constructor <;> kernel_rfl
theorem cx2:yC 60 tx2=((yC 60 tx2).1,0,0)∧Va (yC 60 tx2).1=true:=by constructor <;> kernel_rfl
theorem cx3:yC 60 tx3=((yC 60 tx3).1,0,0)∧Va (yC 60 tx3).1=true:=by constructor <;> kernel_rfl
theorem cx4:yC 60 tx4=((yC 60 tx4).1,0,0)∧Va (yC 60 tx4).1=true:=by constructor <;> kernel_rfl
theorem cx5:yC 60 tx5=((yC 60 tx5).1,0,0)∧Va (yC 60 tx5).1=true:=by constructor <;> kernel_rfl
theorem cp1:prR (prE 24 (UU (yC 60 tx1).1))=(ty1,0):=by rw [QQ];kernel_rfl
theorem cp2:prR (prE 24 (UU (yC 60 tx2).1))=(ty2,0):=by rw [QQ];kernel_rfl
theorem cp3:prR (prE 24 (UU (yC 60 tx3).1))=(tx3,0):=by rw [QQ];kernel_rfl
theorem cp4:prR (prE 24 (UU (yC 60 tx4).1))=(tx4,0):=by rw [QQ];kernel_rfl
theorem cp5:prR (prE 24 (UU (yC 60 tx5).1))=(ty5,0):=by rw [QQ];kernel_rfl
theorem cxE:yC 60 zfH=(yZ,2,6):=by kernel_rfl
theorem cxF:Vb 60 txF=(xY,8,6):=by kernel_rfl
theorem cxP:Vb 60 txP=((Vb 60 txP).1,0,0)∧zeZ (Vb 60 txP).1=true:=by constructor <;> kernel_rfl
theorem cpP:prR (QD (pgz (Vb 60 txP).1))=(tyP,0):=by kernel_rfl
end Go.Proofs.YtdgpapchkpnijaaGreatDoor
