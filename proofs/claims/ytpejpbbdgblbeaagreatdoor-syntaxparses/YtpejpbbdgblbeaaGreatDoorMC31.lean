import Derived.Test.YtpejpbbdgblbeaaGreatDoorMC30
import Derived.Test.YtpejpbbdgblbeaaGreatDoorMC12
import Derived.Test.YtpejpbbdgblbeaaGreatDoorMC4
namespace Go.Proofs.YtpejpbbdgblbeaaGreatDoor
open Go.RowKit Go.Shelf
set_option maxHeartbeats 16000000
set_option maxRecDepth 100000
theorem zc7 (l:List UInt8) (w:World) (ht:Ys w) (hl:ZS w) (he:Xh w) :
  Calls Tryz.prog 8 #[.string (za l)] w fun e w' =>
   ∃(x:Pg) (at0 err:Nat) (v:Value),e=.returned (.tuple #[v,.int .i64 at0,.int .i64 err])∧yx l x at0 err∧YH w.heap.size w' x v∧Below w.heap.size w w':=by
 have hb:Below w.heap.size w (w.alloc xg):=(Below.refl w.heap.size w).alloc (Nat.le_refl _) _;have cr:=ziD l (w.alloc xg) (ht.below hb (Nat.le_refl _)) (fun j v hj=>ze (hl j v hj) _) (ze he _)
 go_enter Tryz.func8,Tryz.ntmps8
 go_wp2_with fail
 refine cr.mono ?_;clear cr;rintro e w1 ⟨x,at0,err,v,rfl,hI,hx,hb1⟩;obtain ⟨s0,s1,s2,d0,d1,d2,rfl⟩:=hx.agg;have hsz:(w.alloc xg).heap.size=w.heap.size+1:=by simp
 rw [hsz] at hx hb1;have p0:w1.heap[w.heap.size]?=some xg:=(hb1.block w.heap.size (by omega)).trans (World.alloc_heap_new w _)
 obtain ⟨q0,q1,qf⟩:=zZ p0;obtain ⟨z0,z1⟩:=Yi p0 (.slice s0 s1 s2) (.slice d0 d1 d2);have hb2:Below w.heap.size w w1:=hb.trans (hb1.mono (by omega))
 have HB:Hid (Below w.heap.size w (vh w1 w.heap.size (.slice s0 s1 s2) (.slice d0 d1 d2))) :=
  (hb2.setCell (p:=⟨w.heap.size,0,none⟩) (by simp) _).setCell (p:=⟨w.heap.size,1,none⟩) (by simp) _
 have HX:Hid (YH w.heap.size (vh w1 w.heap.size (.slice s0 s1 s2) (.slice d0 d1 d2)) x (.agg #[.slice s0 s1 s2,.slice d0 d1 d2])) :=
  YH.mono (YH.kept hx (w':=vh w1 w.heap.size (.slice s0 s1 s2) (.slice d0 d1 d2)) (by simp) fun j hj _=>Vk _ _ _ _ (by omega)) (by omega)
 have HI:Hid (yx l x at0 err):=hI;clear hb hb2 hx hb1 hI p0 ht hl he;go_wp2
 exact bodyPost_ret (v:=.tuple #[.agg #[.slice s0 s1 s2,.slice d0 d1 d2],.int .i64 at0,.int .i64 err]) (by simp [results,Tryz.results8,go_sem,z0,z1]) rfl ⟨x,at0,err,_,rfl,HI.out,HX.out,HB.out⟩
theorem zhk (l:List UInt8) (w:World) (ht:Ys w) (hl:ZS w) (he:Xh w) :
  Calls Tryz.prog 19 #[.string (za l)] w fun e w' =>
   ∃(x:Ex) (at0 err:Nat) (v:Value),e=.returned (.tuple #[v,.int .i64 at0,.int .i64 err])∧xw l x at0 err∧ZO w.heap.size w' x v∧Below w.heap.size w w':=by
 have hb:Below w.heap.size w (w.alloc ZA):=(Below.refl w.heap.size w).alloc (Nat.le_refl _) _;have cr:=ziC l (w.alloc ZA) (ht.below hb (Nat.le_refl _)) (fun j v hj=>ze (hl j v hj) _) (ze he _)
 go_enter Tryz.func19,Tryz.ntmps19
 go_wp2_with fail
 refine cr.mono ?_;clear cr;rintro e w1 ⟨x,at0,err,v,rfl,hI,hx,hb1⟩;obtain ⟨a,b,c,d0,d1,d2,k,rfl⟩:=hx.agg;have hsz:(w.alloc ZA).heap.size=w.heap.size+1:=by simp
 rw [hsz] at hx hb1;have p0:w1.heap[w.heap.size]?=some ZA:=(hb1.block w.heap.size (by omega)).trans (World.alloc_heap_new w _)
 obtain ⟨q0,q1,q2,q3,q4,qf⟩:=zo p0;obtain ⟨z0,z1,z2,z3,z4⟩:=zA p0 (.int .i64 a) (.string b) (.int .i64 c) (.slice d0 d1 d2) (.int .i64 k);have hb2:Below w.heap.size w w1:=hb.trans (hb1.mono (by omega))
 have HB:Hid (Below w.heap.size w (set5 w1 w.heap.size (.int .i64 a) (.string b) (.int .i64 c) (.slice d0 d1 d2) (.int .i64 k))) :=
  ((((hb2.setCell (p:=⟨w.heap.size,0,none⟩) (by simp) _).setCell (p:=⟨w.heap.size,1,none⟩) (by simp) _).setCell (p:=⟨w.heap.size,2,none⟩) (by simp) _).setCell (p:=⟨w.heap.size,3,none⟩) (by simp) _).setCell (p:=⟨w.heap.size,4,none⟩) (by simp) _
 have HX:Hid (ZO w.heap.size (set5 w1 w.heap.size (.int .i64 a) (.string b) (.int .i64 c) (.slice d0 d1 d2) (.int .i64 k)) x (.agg #[.int .i64 a,.string b,.int .i64 c,.slice d0 d1 d2,.int .i64 k])) :=
  ZO.mono (ZO.kept hx (w':=set5 w1 w.heap.size (.int .i64 a) (.string b) (.int .i64 c) (.slice d0 d1 d2) (.int .i64 k)) (by simp) fun j hj _=>zw _ _ _ _ _ _ _ (by omega)) (by omega)
 have HI:Hid (xw l x at0 err):=hI;clear hb hb2 hx hb1 hI p0 ht hl he;go_wp2
 exact bodyPost_ret (v:=.tuple #[.agg #[.int .i64 a,.string b,.int .i64 c,.slice d0 d1 d2,.int .i64 k],.int .i64 at0,.int .i64 err]) (by simp [results,Tryz.results19,go_sem,z0,z1,z2,z3,z4]) rfl ⟨x,at0,err,_,rfl,HI.out,HX.out,HB.out⟩
mutual
def exz:Ex→Ez
 | .mk k s n kids line=>.mk k s n (v8 kids) line
def v8:List Ex→List Ez
 | []=>[]
 | x::xs=>exz x::v8 xs
end
theorem qK (l:List Ex):v8 l=l.map exz:=by
 induction l with
 | nil=>rfl
 | cons x xs ih=>rw [v8,ih];rfl
mutual
def UP:Ex→Bool
 | .mk _ s n kids _=>decide (s.length≤100000000)&&decide (-9223372036854775808≤n)&&decide (n≤9223372036854775807)&&okL kids
def okL:List Ex→Bool
 | []=>true
 | x::xs=>UP x&&okL xs
end
theorem zdM {l:List Ex} (h:okL l=true):∀{i:Nat} {x:Ex},l[i]?=some x→UP x=true:=by
 induction l with
 | nil=>intro i x hx;simp at hx
 | cons y ys ih =>
  intro i x hx;rw [okL,Bool.and_eq_true] at h;cases i with
  | zero=>simp only [List.getElem?_cons_zero,Option.some.injEq] at hx;subst hx;exact h.1
  | succ i=>exact ih h.2 (by simpa using hx)
theorem zY.ez {S:Nat→Prop} {B:Nat} {w:World} {x:Ex} {v:Value} (h:zY S w x v) (hS:∀k,S k→k<w.heap.size→k<B) (hok:UP x=true):ZJ B w (exz x) v:=by
 induction h with
 | leaf k s n line =>
  rw [UP] at hok;simp only [Bool.and_eq_true,decide_eq_true_eq] at hok;exact ZJ.mk (k:Int) s n [] (line:Int) none 0 0 0 [] hok.1.1.1 hok.1.1.2 hok.1.2 (fun h=>absurd rfl h) rfl (Nat.le_refl _) (Nat.zero_le _) (fun j u hj=>by simp at hj) (fun c hc=>by simp at hc) (fun j x c hx=>by simp at hx)
 | node k s n kids line g cap us hne hlen hB hg hc hm hcell hfive _ ih =>
  rw [UP] at hok;simp only [Bool.and_eq_true,decide_eq_true_eq] at hok;have e:(v8 kids).length=kids.length:=by rw [qK,List.length_map]
  have:=ZJ.mk (B:=B) (w:=w) (k:Int) s n (v8 kids) (line:Int) (some ⟨g,0,none⟩) cap g 0 us hok.1.1.1 hok.1.1.2 hok.1.2 (fun _=>⟨rfl,hS g hB hg,hg⟩) (by rw [e];exact hlen) (by rw [e];exact hc) hm (fun j u hj=>by rw [Nat.zero_add];exact hcell j u hj) hfive (fun j x c hx hc'=>by
   rw [qK,List.getElem?_map] at hx;cases hy:kids[j]? with
   | none=>rw [hy] at hx;simp at hx
   | some y =>
    rw [hy] at hx;simp only [Option.map_some,Option.some.injEq] at hx;subst hx
    exact ih j y c hy hc' (zdM hok.2 hy))
  rw [e] at this;exact this
mutual
def stz:St→Sz
 | .mk k s es body els line=>.mk k s (v8 es) (V8 body) (V8 els) line
def V8:List St→List Sz
 | []=>[]
 | x::xs=>stz x::V8 xs
end
theorem zf1 (l:List St):V8 l=l.map stz:=by
 induction l with
 | nil=>rfl
 | cons x xs ih=>rw [V8,ih];rfl
mutual
def okS:St→Bool
 | .mk _ s es body els _=>decide (s.length≤100000000)&&okL es&&Vq body&&Vq els
def Vq:List St→Bool
 | []=>true
 | x::xs=>okS x&&Vq xs
end
theorem qL {l:List St} (h:Vq l=true):∀{i:Nat} {x:St},l[i]?=some x→okS x=true:=by
 induction l with
 | nil=>intro i x hx;simp at hx
 | cons y ys ih =>
  intro i x hx;rw [Vq,Bool.and_eq_true] at h;cases i with
  | zero=>simp only [List.getElem?_cons_zero,Option.some.injEq] at hx;subst hx;exact h.1
  | succ i=>exact ih h.2 (by simpa using hx)
mutual
def hiS:St→Nat
 | .mk _ _ _ body els _=>1+max (zbX body) (zbX els)
def zbX:List St→Nat
 | []=>0
 | x::xs=>max (hiS x) (zbX xs)
end
theorem qM {l:List St}:∀{i:Nat} {x:St},l[i]?=some x→hiS x≤zbX l:=by
 induction l with
 | nil=>intro i x hx;simp at hx
 | cons y ys ih =>
  intro i x hx;rw [zbX];cases i with
  | zero=>simp only [List.getElem?_cons_zero,Option.some.injEq] at hx;subst hx;omega
  | succ i=>have:=ih (i:=i) (x:=x) (by simpa using hx);omega
theorem zaK {α β:Type} {P:β→List Value→Prop} {f:α→β} {sz B g cap:Nat} {w:World} {l:List α} {us:List (List Value)} (hlen:us.length=l.length) (hB:g<B) (hg:g<w.heap.size) (hc:l.length≤cap) (hm:cap≤maxLen) (hcell:∀j u,us.flatten[j]?=some u→w.cell? ⟨g,j,none⟩=some u) (hw:∀c∈us,c.length=sz)
  (hk:∀(j:Nat) (x:α) (c:List Value),l[j]?=some x→us[j]?=some c→P (f x) c):ZB P sz B w (l.map f) (some ⟨g,0,none⟩) l.length cap:=by
 refine ⟨by rw [List.length_map],by rw [List.length_map];exact hc,hm,fun i x hx=>?_⟩
 rw [List.getElem?_map] at hx;cases hy:l[i]? with
 | none=>rw [hy] at hx;simp at hx
 | some y =>
  rw [hy] at hx;simp only [Option.map_some,Option.some.injEq] at hx;subst hx;have hi:i<l.length:=(List.getElem?_eq_some_iff.1 hy).1;obtain ⟨c,hc'⟩:∃c,us[i]?=some c:=⟨us[i]'(by omega),List.getElem?_eq_getElem (by omega)⟩
  have hcl:c.length=sz:=hw c (List.mem_of_getElem? hc');refine ⟨g,0,c,rfl,hB,hg,hcl,hk i y c hy hc',fun j u hj=>?_⟩
  have hjl:j<sz:=by rw [←hcl];exact (List.getElem?_eq_some_iff.1 hj).1
  rw [Nat.zero_add];exact hcell _ _ ((zhj hw hc' hjl).trans hj)
theorem qN {α β:Type} {P:β→List Value→Prop} {f:α→β} {sz B:Nat} {w:World}:ZB P sz B w (([]:List α).map f) none 0 0:=⟨rfl,Nat.le_refl _,Nat.zero_le _,fun i x hx=>by simp at hx⟩
theorem zv.rowZ {S:Nat→Prop} {B:Nat} {w:World} {l:List Ex} {v:Value} (h:zv S w l v) (hS:∀k,S k→k<w.heap.size→k<B) (hok:okL l=true):∃b m cap,v=.slice b m cap∧ZB (EzC B w) 5 B w (v8 l) b m cap:=by
 rw [qK];rcases h with ⟨rfl,rfl⟩ | ⟨g,cap,us,rfl,_,hlen,hs,hg,hc,hm,hcell,hw,hk⟩
 ·exact ⟨none,0,0,rfl,qN⟩
 ·exact ⟨_,_,_,rfl,zaK hlen (hS g hs hg) hg hc hm hcell hw fun j x c hx hc'=>zY.ez (hk j x c hx hc') hS (zdM hok hx)⟩
theorem XB.rowZ {S:Nat→Prop} {B f:Nat} {w:World} {l:List St} {v:Value} {g cap:Nat} {us:List (List Value)} (h:XB S w l v g cap us) (hS:∀k,S k→k<w.heap.size→k<B)
  (hk:∀(j:Nat) (x:St) (c:List Value),l[j]?=some x→us[j]?=some c→ZT B w f (stz x) c):∃b m cap,v=.slice b m cap∧ZB (ZT B w f) 6 B w (V8 l) b m cap:=by
 rw [zf1];rcases h with ⟨rfl,rfl⟩ | ⟨rfl,_,hlen,hs,hg,hc,hm,hcell,hw⟩
 ·exact ⟨none,0,0,rfl,qN⟩
 ·exact ⟨_,_,_,rfl,zaK hlen (hS g hs hg) hg hc hm hcell hw hk⟩
theorem yS.sz {S:Nat→Prop} {B:Nat} {w:World} {x:St} {v:Value} (h:yS S w x v) (hS:∀k,S k→k<w.heap.size→k<B):∀(f:Nat) (c:List Value),hiS x≤f→okS x=true→v=.agg c.toArray→ZT B w f (stz x) c:=by
 induction h with
 | mk k s es body els line ve vb vl gb cb gl cl ub ul he hbr hbk hl hlk ih1 ih2 =>
  intro f c hf hok hv;rw [hiS] at hf;rw [okS] at hok;simp only [Bool.and_eq_true,decide_eq_true_eq] at hok;obtain ⟨f,rfl⟩:∃f',f=f'+1:=⟨f-1,by omega⟩
  obtain ⟨be,me,ce,rfl,h1⟩:=he.rowZ hS hok.1.1.2;obtain ⟨bb,mb,cb',rfl,h2⟩:=hbr.rowZ (f:=f) hS fun j x c hx hc=>ih1 j x c hx hc f c (by have:=qM hx;omega) (qL hok.1.2 hx) rfl
  obtain ⟨bl,ml,cl',rfl,h3⟩:=hl.rowZ (f:=f) hS fun j x c hx hc=>ih2 j x c hx hc f c (by have:=qM hx;omega) (qL hok.2 hx) rfl
  have hcl:c=[.int .i64 k,.string (za s),.slice be me ce,.slice bb mb cb',.slice bl ml cl',.int .i64 line]:=by
   have:=congrArg (fun v=>match v with | .agg a=>a.toList | _=>[]) hv
   simpa using this.symm
  exact ⟨be,me,ce,bb,mb,cb',bl,ml,cl',hcl,hok.1.1.1,h1,h2,h3⟩
def rcz (x:Rc):Rz:=⟨x.name,x.fields,x.line⟩
def fcz (x:Fc):Fz:=⟨x.name,x.params,x.result,V8 x.body,x.line⟩
def pgz (x:Pg):Pz:=⟨x.recs.map rcz,x.funs.map fcz⟩
def zaL (l:List Pm):Bool:=l.all fun p=>decide (p.1.length≤100000000)&&decide (p.2.length≤100000000)
def zf3 (x:Rc):Bool:=decide (x.name.length≤100000000)&&zaL x.fields
def zf4 (x:Fc):Bool:=decide (x.name.length≤100000000)&&decide (x.result.length≤100000000)&&zaL x.params&&Vq x.body
def zaM (x:Pg):Bool:=x.recs.all zf3&&x.funs.all zf4
def Qs (x:Pg):Nat:=(x.funs.map fun y=>zbX y.body).foldr max 0
theorem zf5 {l:List Fc} {y:Fc} (h:y∈l):zbX y.body≤(l.map fun y=>zbX y.body).foldr max 0:=by
 induction l with
 | nil=>simp at h
 | cons z zs ih =>
  rw [List.map_cons,List.foldr_cons];rcases List.mem_cons.1 h with rfl | h
  ·omega
  ·have:=ih h;omega
theorem vd.rowZ {α β:Type} {E:(Nat→Prop)→World→α→List Value→Prop} {P:β→List Value→Prop} {f:α→β} {sz:Nat} {S:Nat→Prop} {B:Nat} {w:World} {l:List α} {v:Value} (h:vd E sz S w l v) (hS:∀k,S k→k<w.heap.size→k<B)
  (hk:∀(x:α) (c:List Value),x∈l→E S w x c→P (f x) c):∃b m cap,v=.slice b m cap∧ZB P sz B w (l.map f) b m cap:=by
 rcases h with ⟨rfl,rfl⟩ | ⟨g,cap,us,rfl,_,hlen,hs,hg,hc,hm,hcell,hw,hk2⟩
 ·exact ⟨none,0,0,rfl,qN⟩
 ·exact ⟨_,_,_,rfl,zaK hlen (hS g hs hg) hg hc hm hcell hw fun j x c hx hc'=>hk x c (List.mem_of_getElem? hx) (hk2 j x c hx hc')⟩
theorem Yz.rowZ {S:Nat→Prop} {B:Nat} {w:World} {l:List Pm} {v:Value} (h:Yz S w l v) (hS:∀k,S k→k<w.heap.size→k<B) (hok:zaL l=true):∃b m cap,v=.slice b m cap∧ZB PmZ 2 B w l b m cap:=by
 have:=vd.rowZ (P:=PmZ) (f:=fun x:Pm=>(x:List UInt8 × List UInt8)) h hS fun x c hx hc=>by
  have h1:=List.all_eq_true.1 hok x hx;simp only [Bool.and_eq_true,decide_eq_true_eq] at h1;exact ⟨hc,h1.1,h1.2⟩
 simpa using this
theorem xy.pz {S:Nat→Prop} {B:Nat} {w:World} {x:Pg} {v:Value} (h:xy S w x v) (hS:∀k,S k→k<w.heap.size→k<B) (hok:zaM x=true):Xo B w (Qs x) (pgz x) v:=by
 obtain ⟨vr,vf,rfl,h1,h2⟩:=h
 unfold zaM at hok
 rw [Bool.and_eq_true] at hok
 obtain ⟨b,m,cap,rfl,hr⟩:=h1.rowZ (P:=X8 B w) (f:=rcz) hS fun x c hx hc=>by
  have h9:=List.all_eq_true.1 hok.1 x hx
  unfold zf3 at h9
  simp only [Bool.and_eq_true,decide_eq_true_eq] at h9;obtain ⟨vp,rfl,hp⟩:=hc;obtain ⟨b,m,cap,rfl,hp2⟩:=Yz.rowZ hp hS h9.2;exact ⟨b,m,cap,rfl,h9.1,hp2⟩
 obtain ⟨b2,m2,cap2,rfl,hf⟩:=h2.rowZ (P:=X9 B w (Qs x)) (f:=fcz) hS fun y c hx hc=>by
  have h9:=List.all_eq_true.1 hok.2 y hx
  unfold zf4 at h9
  simp only [Bool.and_eq_true,decide_eq_true_eq] at h9;obtain ⟨vp,vb,rfl,hp,hb⟩:=hc;obtain ⟨b,m,cap,rfl,hp2⟩:=Yz.rowZ hp hS h9.1.2;obtain ⟨g,cb,us,hr,hk⟩:=hb;obtain ⟨b2,m2,cap2,rfl,hb2⟩:=hr.rowZ (f:=Qs x) hS fun j z c hz hc=>yS.sz (hk j z c hz hc) hS (Qs x) c (by have:=qM hz;have:=zf5 hx;unfold Qs;omega) (qL h9.2 hz) rfl
  exact ⟨b,m,cap,b2,m2,cap2,rfl,h9.1.1.1,h9.1.1.2,hp2,hb2⟩
 exact ⟨b,m,cap,b2,m2,cap2,rfl,hr,hf⟩
def Yq (f:Nat) (l:List UInt8):Ex × Nat × Nat :=
 if (Xx l).2.2≠0 then (vI,(Xx l).2.1,(Xx l).2.2) else
 match zk f 1 (Xx l).1 with
 | none=>(vI,0,99)
 | some res=>match Y6 res with
  | .error a=>(vI,a,6)
  | .ok y=>if 24<z6 y then (vI,0,7) else (y,0,0)
theorem zbY {l:List UInt8} {x:Ex} {a e:Nat} (f:Nat) (hl:l.length≤4096) (h:xw l x a e) (hd:(Yq f l).2.2≠99):Yq f l=(x,a,e):=by
 unfold xw at h
 rw [zdx hl] at h
 unfold Yq at hd ⊢
 by_cases hc:(Xx l).2.2≠0
 ·rw [if_pos hc] at h ⊢
  obtain ⟨rfl,rfl,rfl⟩:=h
  rfl
 ·rw [if_neg hc] at h hd ⊢
  obtain ⟨f',res,h1,h2⟩:=h;cases hp:zk f 1 (Xx l).1 with
  | none=>rw [hp] at hd;exact absurd rfl hd
  | some r2 =>
   obtain rfl:=Vy hp h1;cases hw:Y6 r2 with
   | error a=>rw [hw] at h2;obtain ⟨rfl,rfl,rfl⟩:=h2;simp only [hw]
   | ok y =>
    rw [hw] at h2;simp only [hw] at h2 ⊢
    by_cases hdp:24<z6 y
    ·rw [if_pos hdp] at h2 ⊢;obtain ⟨rfl,rfl,rfl⟩:=h2;rfl
    ·rw [if_neg hdp] at h2 ⊢;obtain ⟨rfl,rfl,rfl⟩:=h2;rfl
theorem V9:∀(f:Nat) (rs:List Rc) (fs:List Fc) (ts:List Tk) (r:PR Pg),ZR f rs fs ts=some r→ZR (f+1) rs fs ts=some r
 | 0,_,_,_,_,h=>by cases h
 | f+1,rs,fs,ts,r,h=>by
  rw [ZR] at h ⊢
  split at h
  ·rename_i h0;rw [if_pos h0];exact h
  ·rename_i h0
   rw [if_neg h0]
   split at h
   ·rename_i h1
    rw [if_pos h1];exact zJ h (fun _=>ux) fun x us r hr=>V9 f _ _ _ _ hr
   ·rename_i h1
    rw [if_neg h1]
    split at h
    ·rename_i h2
     rw [if_pos h2];exact zJ h (fun _=>qu) fun x us r hr=>V9 f _ _ _ _ hr
    ·rename_i h2
     rw [if_neg h2];exact h
theorem zbZ {f k:Nat} {rs:List Rc} {fs:List Fc} {ts:List Tk} {r:PR Pg} (h:ZR f rs fs ts=some r):ZR (f+k) rs fs ts=some r:=by
 induction k with
 | zero=>exact h
 | succ k ih=>exact V9 _ _ _ _ _ ih
theorem qO {f f':Nat} {rs:List Rc} {fs:List Fc} {ts:List Tk} {r r':PR Pg} (h:ZR f rs fs ts=some r) (h':ZR f' rs fs ts=some r'):r=r':=by
 have a:=zbZ (k:=f') h;have b:=zbZ (k:=f) h';rw [Nat.add_comm] at b;exact Option.some.inj (a.symm.trans b)
def uG (f:Nat) (l:List UInt8):Pg × Nat × Nat :=
 if (Xx l).2.2≠0 then (xe,(Xx l).2.1,(Xx l).2.2) else
 match ZR f [] [] (Xx l).1 with
 | none=>(xe,0,99)
 | some res=>match Yj res with
  | .error a=>(xe,a,6)
  | .ok y=>if 24<depthFs y.funs then (xe,0,7) else (y,0,0)
theorem zb0 {l:List UInt8} {x:Pg} {a e:Nat} (f:Nat) (hl:l.length≤4096) (h:yx l x a e) (hd:(uG f l).2.2≠99):uG f l=(x,a,e):=by
 unfold yx at h
 rw [zdx hl] at h
 unfold uG at hd ⊢
 by_cases hc:(Xx l).2.2≠0
 ·rw [if_pos hc] at h ⊢
  obtain ⟨rfl,rfl,rfl⟩:=h
  rfl
 ·rw [if_neg hc] at h hd ⊢
  obtain ⟨f',res,h1,h2⟩:=h;cases hp:ZR f [] [] (Xx l).1 with
  | none=>rw [hp] at hd;exact absurd rfl hd
  | some r2 =>
   obtain rfl:=qO hp h1;cases hw:Yj r2 with
   | error a=>rw [hw] at h2;obtain ⟨rfl,rfl,rfl⟩:=h2;simp only [hw]
   | ok y =>
    rw [hw] at h2;simp only [hw] at h2 ⊢
    by_cases hdp:24<depthFs y.funs
    ·rw [if_pos hdp] at h2 ⊢;obtain ⟨rfl,rfl,rfl⟩:=h2;rfl
    ·rw [if_neg hdp] at h2 ⊢;obtain ⟨rfl,rfl,rfl⟩:=h2;rfl
def zf6:Nat→Nat→List UInt8
 | 0,_=>[]
 | f+1,u=>if u<10 then [UInt8.ofNat (48+u)] else zf6 f (u / 10)++[UInt8.ofNat (48+u % 10)]
theorem zaN:∀(f u:Nat),u<f→Lib.decDigits u=zf6 f u
 | 0,u,h=>by omega
 | f+1,u,h=>by
  rw [Lib.decDigits,zf6]
  by_cases h9:u<10
  ·rw [dif_pos h9,if_pos h9]
  ·rw [dif_neg h9,if_neg h9,zaN f _ (by omega)]
def wrC (k n:Int) (s:List UInt8):List UInt8:=if k=2 then (if n<0 then 45::zf6 (n.natAbs+1) n.natAbs else zf6 (n.toNat+1) n.toNat) else if k=3 then Ya s else s
theorem zc8 (k n:Int) (s:List UInt8):VN k n s=wrC k n s:=by
 unfold VN wrC Lib.itoa
 rw [zaN (n.natAbs+1) _ (by omega),zaN (n.toNat+1) _ (by omega)]
def zg2 (k n:Int) (s:List UInt8):Option (List UInt8) :=
 if (Zc (wrC k n s)).e=0∧((Zc (wrC k n s)).k:Int)=k∧(Zc (wrC k n s)).s=s∧((Zc (wrC k n s)).n:Int)=n then some (wrC k n s) else none
theorem zg3 (k n:Int) (s:List UInt8):tokO k n s=zg2 k n s:=by
 unfold tokO tkB zg2
 by_cases h:xU k n s
 ·have h2:=h
  unfold xU at h2
  rw [zc8] at h2;rw [if_pos h,if_pos rfl,if_pos h2];show some (VN k n s)=_
  rw [zc8]
 ·have h2:=h
  unfold xU at h2
  rw [zc8] at h2;rw [if_neg h,if_neg h2]
  rfl
theorem zhZ:tokO=zg2:=funext fun k=>funext fun n=>funext fun s=>zg3 k n s
def prG (tok:Int→Int→List UInt8→Option (List UInt8)):Nat→Ez→Option (List UInt8)
 | 0,_=>none
 | d+1,.mk k s n kids _ =>
  if xR k s n kids.length=true then
   if k=1 then tok 2 n []
   else if k=2 then some (if n=0 then [102,97,108,115,101] else [116,114,117,101])
   else if k=3 then tok 3 0 s
   else if k=4 then tok 1 0 s
   else if k=5 then zd (tok 1 0 s) (zd (some [40]) (zd (rowO (kids.map (prG tok d)) kids.length) (some [41])))
   else if k=11 then zd (some [110,101,119,32]) (zd (tok 1 0 s) (zd (some [40]) (zd (rowO (kids.map (prG tok d)) kids.length) (some [41]))))
   else if k=10 then zd (some [91]) (zd (rowO (kids.map (prG tok d)) kids.length) (some [93]))
   else if k=6 then match kids with
    | a::_=>zd (some s) (kidO a 7 (prG tok d a))
    | _=>none
   else if k=7 then match kids with
    | a::b::_=>zd (kidO a (levelOf s) (prG tok d a)) (zd (some [32]) (zd (some s) (zd (some [32]) (kidO b (levelOf s+1) (prG tok d b)))))
    | _=>none
   else if k=8 then match kids with
    | a::b::_=>zd (kidO a 8 (prG tok d a)) (zd (some [91]) (zd (prG tok d b) (some [93])))
    | _=>none
   else if k=9 then match kids with
    | a::_=>zd (kidO a 8 (prG tok d a)) (zd (some [46]) (tok 1 0 s))
    | _=>none
   else none
  else none
theorem zf7:∀d,prE d=prG tokO d
 | 0=>rfl
 | d+1=>by
  funext x
  obtain ⟨k,s,n,kids,line⟩:=x
  unfold prE prG
  rw [zf7 d]
  rfl
theorem zb1 (d:Nat):prE d=prG zg2 d:=by rw [zf7,zhZ]
def tx1:List UInt8:=[49,45,40,50,45,51,41]
def tx2:List UInt8:=[40,49,45,50,41,45,51]
def tx3:List UInt8:=[45,97,46,98,91,48,93]
def tx4:List UInt8:=[40,45,97,41,46,98]
def tx5:List UInt8:=[33,40,120,38,38,121,41]
def ty1:List UInt8:=[49,32,45,32,40,50,32,45,32,51,41]
def ty2:List UInt8:=[49,32,45,32,50,32,45,32,51]
def ty5:List UInt8:=[33,40,120,32,38,38,32,121,41]
def ziH:List UInt8:=[49,43]
def txF:List UInt8:=[102,110,32,102,40,41,123,49,61,50,59,125]
def txP:List UInt8:=[114,101,99,111,114,100,32,80,123,120,58,105,110,116,125,10,102,110,32,102,40,97,58,91,105,110,116,93,41,58,105,110,116,123,114,101,116,117,114,110,32,97,91,48,93,59,125]
def tyP:List UInt8:=[114,101,99,111,114,100,32,80,32,123,32,120,58,32,105,110,116,32,125,10,102,110,32,102,40,97,58,32,91,105,110,116,93,41,58,32,105,110,116,32,123,10,114,101,116,117,114,110,32,97,91,48,93,59,10,125,10]
theorem cx1:Yq 60 tx1=((Yq 60 tx1).1,0,0)∧UP (Yq 60 tx1).1=true:=by constructor <;> kernel_rfl
theorem cx2:Yq 60 tx2=((Yq 60 tx2).1,0,0)∧UP (Yq 60 tx2).1=true:=by constructor <;> kernel_rfl
theorem cx3:Yq 60 tx3=((Yq 60 tx3).1,0,0)∧UP (Yq 60 tx3).1=true:=by constructor <;> kernel_rfl
theorem cx4:Yq 60 tx4=((Yq 60 tx4).1,0,0)∧UP (Yq 60 tx4).1=true:=by constructor <;> kernel_rfl
theorem cx5:Yq 60 tx5=((Yq 60 tx5).1,0,0)∧UP (Yq 60 tx5).1=true:=by constructor <;> kernel_rfl
theorem cp1:prR (prE 24 (exz (Yq 60 tx1).1))=(ty1,0):=by rw [zb1];kernel_rfl
theorem cp2:prR (prE 24 (exz (Yq 60 tx2).1))=(ty2,0):=by rw [zb1];kernel_rfl
theorem cp3:prR (prE 24 (exz (Yq 60 tx3).1))=(tx3,0):=by rw [zb1];kernel_rfl
theorem cp4:prR (prE 24 (exz (Yq 60 tx4).1))=(tx4,0):=by rw [zb1];kernel_rfl
theorem cp5:prR (prE 24 (exz (Yq 60 tx5).1))=(ty5,0):=by rw [zb1];kernel_rfl
theorem cxE:Yq 60 ziH=(vI,2,6):=by kernel_rfl
theorem cxF:uG 60 txF=(xe,8,6):=by kernel_rfl
theorem cxP:uG 60 txP=((uG 60 txP).1,0,0)∧zaM (uG 60 txP).1=true:=by constructor <;> kernel_rfl
theorem cpP:prR (zbD (pgz (uG 60 txP).1))=(tyP,0):=by kernel_rfl
end Go.Proofs.YtpejpbbdgblbeaaGreatDoor
