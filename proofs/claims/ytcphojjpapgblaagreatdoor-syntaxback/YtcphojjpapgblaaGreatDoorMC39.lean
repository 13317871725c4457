import Derived.Test.YtcphojjpapgblaaGreatDoorMC38
import Derived.Test.YtcphojjpapgblaaGreatDoorMC6
import Derived.Test.YtcphojjpapgblaaGreatDoorMC21
import Derived.Test.YtcphojjpapgblaaGreatDoorMC31
namespace Go.Proofs.YtcphojjpapgblaaGreatDoor
open Go.RowKit Go.Shelf
theorem SG.num {n:Nat} {us:List Tk}:SG (⟨2,[],n,0,0⟩::us) (.ok (.mk 1 [] n [] 0,us)):=⟨1,by rw [zH];exact if_pos rfl⟩
theorem SG.text {s:List UInt8} {us:List Tk}:SG (⟨3,s,0,0,0⟩::us) (.ok (.mk 3 s 0 [] 0,us)):=⟨1,by rw [zH];exact (if_neg (by simp [zu])).trans (if_pos rfl)⟩
theorem SG.name {s:List UInt8} {us:List Tk} (h:zm (zu us) [40]=false):SG (nmT s::us) (.ok (.mk 4 s 0 [] 0,us)):=⟨1,by
 rw [zH];refine (if_neg (by simp [zu])).trans ((if_neg (by simp [zu])).trans ((if_pos rfl).trans ((if_neg ?_).trans rfl)))
 show ¬ zm (zu us) [40]=true
 rw [h];decide⟩
theorem SG.yes {us:List Tk}:SG (XE [116,114,117,101]::us) (.ok (.mk 2 [] 1 [] 0,us)):=⟨1,by
 rw [zH]
 exact (if_neg (by simp [zu])).trans ((if_neg (by simp [zu])).trans ((if_neg (by simp [zu])).trans (if_pos rfl)))⟩
theorem SG.no {us:List Tk}:SG (XE [102,97,108,115,101]::us) (.ok (.mk 2 [] 0 [] 0,us)):=⟨1,by
 rw [zH]
 exact (if_neg (by simp [zu])).trans ((if_neg (by simp [zu])).trans ((if_neg (by simp [zu])).trans ((if_neg Bool.false_ne_true).trans (if_pos rfl))))⟩
theorem SG.call {s:List UInt8} {ts us:List Tk} {l:List Ex} (h:BR (gT [40]::ts) (.ok (l,us))):SG (nmT s::gT [40]::ts) (.ok (.mk 5 s 0 l 0,us)):=by
 obtain ⟨f,h⟩:=h;refine ⟨f+1,?_⟩;rw [zH];refine (if_neg (by simp [zu])).trans ((if_neg (by simp [zu])).trans ((if_pos rfl).trans ((if_pos rfl).trans ?_)))
 show zh (zG f (gT [40]::ts)) (fun l ts'=>some (.ok (Ex.mk 5 s 0 l 0,ts')))=_
 rw [h]
 rfl
theorem SG.new {s:List UInt8} {ts us:List Tk} {l:List Ex} (h:BR (gT [40]::ts) (.ok (l,us))):SG (XE [110,101,119]::nmT s::gT [40]::ts) (.ok (.mk 11 s 0 l 0,us)):=by
 obtain ⟨f,h⟩:=h;refine ⟨f+1,?_⟩;rw [zH];refine (if_neg (by simp [zu])).trans ((if_neg (by simp [zu])).trans ((if_neg (by simp [zu])).trans ((if_neg Bool.false_ne_true).trans ((if_neg Bool.false_ne_true).trans ((if_pos rfl).trans ?_)))))
 show zh (zG f (gT [40]::ts)) (fun l ts'=>some (.ok (Ex.mk 11 s 0 l 0,ts')))=_
 rw [h]
 rfl
theorem SG.list {ts us:List Tk} {l:List Ex} (h:RW [] ts (.ok (l,gT [93]::us))):SG (gT [91]::ts) (.ok (.mk 10 [] 0 l 0,us)):=by
 obtain ⟨f,h⟩:=h;refine ⟨f+1,?_⟩;rw [zH];refine (if_neg (by simp [zu])).trans ((if_neg (by simp [zu])).trans ((if_neg (by simp [zu])).trans ((if_neg Bool.false_ne_true).trans ((if_neg Bool.false_ne_true).trans ((if_neg Bool.false_ne_true).trans ((if_pos rfl).trans ?_))))))
 show zh (Z1 f [] ts) (fun l ts'=>zh (zR [93] ts') fun _ ts'=>some (.ok (Ex.mk 10 [] 0 l 0,ts')))=_
 rw [h];simp only [zh,ZY]
theorem BR.none {us:List Tk}:BR (gT [40]::gT [41]::us) (.ok ([],us)):=⟨1,by
 rw [zG,ZY];simp only [zh]
 exact if_pos rfl⟩
theorem BR.some {ts us:List Tk} {l:List Ex} (hn:zm (zu ts) [41]=false) (h:RW [] ts (.ok (l,gT [41]::us))):BR (gT [40]::ts) (.ok (l,us)):=by
 obtain ⟨f,h⟩:=h;refine ⟨f+1,?_⟩;rw [zG,ZY];simp only [zh];rw [if_neg (by rw [hn];decide),h]
 simp only [ZY]
def Hk (t:Tk):Bool:=(!(t.k==4||t.k==5)||[[40],[91],[45],[33],[116,114,117,101],[102,97,108,115,101],[110,101,119]].contains t.s)&&t.line==0
theorem vU {t:Tk} {s:List UInt8} (h:Hk t=true) (hs:[[40],[91],[45],[33],[116,114,117,101],[102,97,108,115,101],[110,101,119]].contains s=false):zm t s=false:=by
 unfold Hk at h
 rw [Bool.and_eq_true,Bool.or_eq_true] at h
 unfold zm
 rw [Bool.and_eq_false_iff];rcases h.1 with h | h
 ·exact .inl (by simpa using h)
 ·refine .inr ?_
  rw [beq_eq_false_iff_ne];rintro rfl;rw [hs] at h;cases h
theorem zhe {t:Tk} (h:Hk t=true):t.line=0:=by
 unfold Hk at h
 rw [Bool.and_eq_true] at h
 simpa using h.2
structure Rd (K:List Tk) (e:Ex) (lv:Nat):Prop where
 one:lv=8→∀rest r,zm (zu rest) [40]=false→BH e rest r→UN (K++rest) r
 un:7≤lv→∀rest,ur rest→UN (K++rest) (.ok (e,rest))
 bt:∀j least,least+j=7→1≤least→least≤lv→∀rest r,ur rest→uq rest≤least→(least≤6→MO least e rest r)→(6<least→r=.ok (e,rest))→BT least (K++rest) r
 pos:1≤lv
 line:e.line=0
 hd:∃t us,K=t::us∧Hk t=true
theorem Rd.of_one {K:List Tk} {e:Ex} (h:∀rest r,zm (zu rest) [40]=false→BH e rest r→UN (K++rest) r) (hl:e.line=0) (hh:∃t us,K=t::us∧Hk t=true):Rd K e 8 where
 one _:=h
 un _ rest hs:=h rest _ hs.2.2 (BH.stop hs.1 hs.2.1)
 bt j least hj h1 _ rest r hs hlv hm h7:=BT.of_single h j least hj h1 rest r hs hlv hm h7
 pos:=by decide
 line:=hl
 hd:=hh
theorem Rd.of_un {K:List Tk} {e:Ex} (h:∀rest,ur rest→UN (K++rest) (.ok (e,rest))) (hl:e.line=0) (hh:∃t us,K=t::us∧Hk t=true):Rd K e 7 where
 one h8:=by cases h8
 un _:=h
 bt j least hj h1 _ rest r hs hlv hm h7:=BT.of_unary h j least hj h1 rest r hs hlv hm h7
 pos:=by decide
 line:=hl
 hd:=hh
theorem xh (s:List UInt8) (us:List Tk):uq (gT s::us)=levelOf s:=by
 unfold uq
 exact if_pos rfl
theorem XF {s:List UInt8} {us:List Tk} (h1:s≠[91]) (h2:s≠[46]) (h3:s≠[40]):ur (gT s::us):=by
 refine ⟨?_,?_,?_⟩ <;> simp [zu,zm, *]
theorem Rd.full {K:List Tk} {e:Ex} {lv:Nat} (h:Rd K e lv) {rest:List Tk} (hs:ur rest) (hl:uq rest=0):BT 1 (K++rest) (.ok (e,rest)) :=
 h.bt 6 1 rfl (by decide) h.pos rest _ hs (by omega) (fun _=>MO.stop (zaf (by omega))) (fun h=>absurd h (by decide))
theorem YB (K:List Tk) (t:Tk) (us:List Tk):(K++[t])++us=K++(t::us):=by simp
theorem Rd.paren {K:List Tk} {e:Ex} {lv:Nat} (h:Rd K e lv):Rd (gT [40]::(K++[gT [41]])) e 8 :=
 Rd.of_one (fun rest r _ hb=>by
  rw [List.cons_append,YB]
  exact UN.single (by simp [zu]) (SG.paren (h.full (XF (by decide) (by decide) (by decide)) (by rw [xh];decide))) hb) h.line ⟨_,_,rfl,rfl⟩
theorem Rd.kid {K:List Tk} {e:Ex} {lv:Nat} (h:Rd K e lv) (least:Nat):Rd (Xo (decide (least≤lv)) K) e (if least≤lv then lv else 8):=by
 unfold Xo
 by_cases hc:least≤lv
 ·rw [if_pos hc,if_pos (decide_eq_true hc)];exact h
 ·rw [if_neg hc,if_neg (by simpa using hc)];exact h.paren
theorem U3:∀(xs:List Ez) (pre:List Ex) (rest:List Tk),(∀x∈xs,∃A,Rd (Yd x) (vF x) A)→xs≠[]→ur rest→uq rest=0→zm (zu rest) [44]=false→RW pre (yN (xs.map Yd)++rest) (.ok (pre++xs.map vF,rest))
 | [],_,_,_,h,_,_,_=>absurd rfl h
 | [x],pre,rest,h,_,hs,hl,hc=>by
  obtain ⟨A,o⟩:=h x (List.mem_cons_self ..);show RW pre (Yd x++[]++rest) _
  rw [List.append_nil];exact RW.one (o.full hs hl) hc
 | x::y::xs,pre,rest,h,_,hs,hl,hc=>by
  obtain ⟨A,o⟩:=h x (List.mem_cons_self ..);have G:=U3 (y::xs) (pre++[vF x]) rest (fun z hz=>h z (List.mem_cons_of_mem _ hz)) (by simp) hs hl hc
  have H:yN ((x::y::xs).map Yd)++rest=Yd x++(gT [44]::(yN ((y::xs).map Yd)++rest)):=by simp [yN,vk]
  have D:pre++(x::y::xs).map vF=pre++[vF x]++(y::xs).map vF:=by simp
  rw [H,D];exact RW.more (o.full (XF (by decide) (by decide) (by decide)) (by rw [xh];decide)) G
theorem zit {xs:List Ez} (h:∀x∈xs,∃o,Rd (Yd x) (vF x) o) (hn:xs≠[]) (rest:List Tk):zm (zu (yN (xs.map Yd)++rest)) [41]=false:=by
 cases xs with
 | nil=>exact absurd rfl hn
 | cons x xs =>
  obtain ⟨o,z⟩:=h x (List.mem_cons_self ..);obtain ⟨t,D,A,y⟩:=z.hd;rw [List.map_cons,yN,A];exact vU y rfl
theorem vV {xs:List Ez} (h:∀x∈xs,∃lv,Rd (Yd x) (vF x) lv) (rest:List Tk):BR (gT [40]::(yN (xs.map Yd)++(gT [41]::rest))) (.ok (xs.map vF,rest)):=by
 by_cases hn:xs=[]
 ·subst hn
  exact BR.none
 ·exact BR.some (zit h hn _) (U3 xs [] _ h hn (XF (by decide) (by decide) (by decide)) (by rw [xh];decide) rfl)
theorem zbx {l:List (Option (List UInt8))}:∀{i:Nat} {v:List UInt8},rowO l i=some v→∀j,j<i→∃t,(l[j]?).getD none=some t
 | 0,_,_,_,h=>by omega
 | i+1,v,h,j,hj=>by
  unfold rowO at h
  obtain ⟨a,b,y,o,-⟩:=zj h;obtain ⟨c,d,-,z,-⟩:=zj o
  by_cases hji:j=i
  ·subst hji;exact ⟨d,z⟩
  ·exact zbx y j (by omega)
theorem VN {kids:List Ez} {d:Nat} {v:List UInt8} (h:rowO (kids.map (prE d)) kids.length=some v) (x:Ez) (hx:x∈kids):∃t,prE d x=some t:=by
 obtain ⟨j,y,rfl⟩:=List.getElem_of_mem hx;obtain ⟨t,o⟩:=zbx h j y;rw [List.getElem?_map,List.getElem?_eq_getElem y] at o;exact ⟨t,o⟩
theorem zfL:∀x:Ez,vJ x≤8
 | .mk k s n kids line=>by
  have h:=YM s;rw [show vJ (.mk k s n kids line)=if k=7 then levelOf s else if k=6 then 7 else 8 from rfl]
  by_cases h7:k=7
  ·rw [if_pos h7];omega
  ·rw [if_neg h7]
   by_cases h:k=6
   ·rw [if_pos h];decide
   ·rw [if_neg h];exact Nat.le_refl _
theorem YP:∀(d:Nat) (x:Ez) (t:List UInt8),prE d x=some t→Rd (Yd x) (vF x) (vJ x)
 | 0,x,t,h=>by rw [prE] at h;cases h
 | d+1,.mk k s n kids line,t,h=>by
  have L:=YP d
  have H:∀{v:List UInt8},rowO (kids.map (prE d)) kids.length=some v→∀x∈kids,∃lv,Rd (Yd x) (vF x) lv:=fun A x hx=>by
   obtain ⟨t,W⟩:=VN A x hx;exact ⟨_,L x t W⟩
  have aa:vJ (.mk k s n kids line)=if k=7 then levelOf s else if k=6 then 7 else 8:=rfl
  have hK:Yd (.mk k s n kids line)=uT k s n (kids.map vJ) (kids.map Yd):=by rw [Yd,zdq]
  have hZ:vF (.mk k s n kids line)=.mk k.toNat s n (kids.map vF) 0:=by rw [vF,Uk]
  rw [aa,hK,hZ];rcases zah h with ⟨rfl,rfl,rfl,W⟩ | ⟨rfl,rfl,rfl,hn⟩ | ⟨rfl,rfl,rfl,W⟩ | ⟨rfl,rfl,rfl,W⟩ | ⟨rfl,rfl,u,v,J,A,-⟩ | ⟨rfl,rfl,u,v,J,A,-⟩ | ⟨rfl,rfl,rfl,af,v,A,-⟩ | ⟨rfl,rfl,hs,a,u,rfl,J,-⟩ | ⟨rfl,rfl,X,a,b,u,v,rfl,J,A,-⟩ | ⟨rfl,rfl,rfl,a,b,u,v,rfl,J,A,-⟩ | ⟨rfl,rfl,a,u,v,rfl,J,A,-⟩
  ·have ak:0≤n:=by
    have:=(vo W (by decide)).1.1.2.2.2
    simp only at this;omega
   have hz:((n.toNat:Nat):Int)=n:=by omega
   refine Rd.of_one (fun rest r _ y=>UN.single (by simp [zu,uT]) SG.num ?_) rfl ⟨_,_,rfl,rfl⟩
   rw [hz];exact y
  ·rcases hn with ⟨rfl,-⟩ | ⟨rfl,-⟩
   ·exact Rd.of_one (fun rest r _ y=>UN.single (by simp [zu,uT]) SG.no y) rfl ⟨_,_,rfl,rfl⟩
   ·exact Rd.of_one (fun rest r _ y=>UN.single (by simp [zu,uT]) SG.yes y) rfl ⟨_,_,rfl,rfl⟩
  ·exact Rd.of_one (fun rest r _ y=>UN.single (by simp [zu,uT]) SG.text y) rfl ⟨_,_,rfl,rfl⟩
  ·exact Rd.of_one (fun rest r hp y=>UN.single (by simp [zu,uT]) (SG.name hp) y) rfl ⟨_,_,rfl,rfl⟩
  ·refine Rd.of_one (fun rest r _ y=>?_) rfl ⟨_,_,rfl,rfl⟩
   show UN (nmT s::gT [40]::(yN (kids.map Yd)++[gT [41]]++rest)) r
   rw [YB];exact UN.single (by simp [zu]) (SG.call (vV (H A) rest)) y
  ·refine Rd.of_one (fun rest r _ y=>?_) rfl ⟨_,_,rfl,rfl⟩
   show UN (XE [110,101,119]::nmT s::gT [40]::(yN (kids.map Yd)++[gT [41]]++rest)) r
   rw [YB];exact UN.single (by simp [zu]) (SG.new (vV (H A) rest)) y
  ·refine Rd.of_one (fun rest r _ y=>?_) rfl ⟨_,_,rfl,rfl⟩
   show UN (gT [91]::(yN (kids.map Yd)++[gT [93]]++rest)) r
   rw [YB];exact UN.single (by simp [zu]) (SG.list (U3 kids [] _ (H A) af (XF (by decide) (by decide) (by decide)) (by rw [xh];decide) rfl)) y
  ·obtain ⟨w,hw,-⟩:=y9 J
   have z:=(L a w hw).kid 7;have Z:7≤(if 7≤vJ a then vJ a else 8):=by split <;> omega
   refine Rd.of_un (fun rest N=>?_) rfl ⟨gT s,_,rfl,?_⟩
   ·exact UN.sign (t:=gT s) rfl hs (z.un Z rest N)
   ·rcases hs with rfl | rfl <;> rfl
  ·obtain ⟨V,G,-⟩:=y9 J
   obtain ⟨wb,aj,-⟩:=y9 A;have al:=YM s;have z:=(L a V G).kid (levelOf s);have y:=(L b wb aj).kid (levelOf s+1);have ad:levelOf s≤(if levelOf s≤vJ a then vJ a else 8):=by split <;> omega
   have ae:levelOf s+1≤(if levelOf s+1≤vJ b then vJ b else 8):=by split <;> omega
   have ab:s≠[91]:=by rintro rfl;exact absurd X (by decide)
   have ai:s≠[46]:=by rintro rfl;exact absurd X (by decide)
   have ah:s≠[40]:=by rintro rfl;exact absurd X (by decide)
   have ag:∀(j o:Nat),o+j=levelOf s→1≤o→∀rest r,ur rest→uq rest≤o→(o≤6→MO o (.mk 7 s 0 [vF a,vF b] 0) rest r)→BT o (Xo (decide (levelOf s≤vJ a)) (Yd a)++(gT s::(Xo (decide (levelOf s+1≤vJ b)) (Yd b)++rest))) r:=by
    intro j
    induction j with
    | zero =>
     intro o hj Y rest r N O T;obtain rfl:o=levelOf s:=by omega
     refine z.bt (7-levelOf s) (levelOf s) (by omega) Y ad _ r (XF ab ai ah) (by rw [xh];exact Nat.le_refl _) (fun _=>?_) (fun h=>absurd h (by omega))
     refine MO.go (t:=gT s) rfl rfl (y.bt (6-levelOf s) (levelOf s+1) (by omega) (by omega) ae rest (.ok (vF b,rest)) N (by omega) (fun _=>MO.stop (zaf (by omega))) (fun _=>rfl)) ?_
     rw [z.line];exact T (by omega)
    | succ j ihj =>
     intro o hj Y rest r N O T;exact BT.more (by omega) (ihj (o+1) (by omega) (by omega) rest _ N (by omega) (fun _=>MO.stop (zaf (by omega)))) (T (by omega))
   have Z:(if (7:Int)=7 then levelOf s else if (7:Int)=6 then 7 else 8)=levelOf s:=if_pos rfl
   rw [Z];obtain ⟨Q,I,U,R⟩:=z.hd;refine ⟨fun h=>absurd h (by omega),fun h=>absurd h (by omega),fun j o hj Y hll rest r N O T Z=>?_,X,rfl,⟨Q,I++(gT s::Xo (decide (levelOf s+1≤vJ b)) (Yd b)),?_,R⟩⟩
   ·have:=ag (levelOf s-o) o (by omega) Y rest r N O T
    show BT o ((Xo (decide (levelOf s≤vJ a)) (Yd a)++(gT s::Xo (decide (levelOf s+1≤vJ b)) (Yd b)))++rest) r
    rw [List.append_assoc,List.cons_append];exact this
   ·show Xo (decide (levelOf s≤vJ a)) (Yd a)++(gT s::Xo (decide (levelOf s+1≤vJ b)) (Yd b))=_
    rw [U,List.cons_append]
  ·obtain ⟨V,G,-⟩:=y9 J
   have z:=(L a V G).kid 8;have y:=L b v A
   have h8:(if 8≤vJ a then vJ a else 8)=8:=by
    split
    ·have:=zfL a
     omega
    ·rfl
   obtain ⟨Q,I,U,R⟩:=z.hd;have D:(vF a).line=0:=z.line;refine Rd.of_one (fun rest r _ hbh=>?_) rfl ⟨Q,I++(gT [91]::(Yd b++[gT [93]])),?_,R⟩
   ·show UN ((Xo (decide (8≤vJ a)) (Yd a)++(gT [91]::(Yd b++[gT [93]])))++rest) r
    rw [List.append_assoc,List.cons_append,YB];refine z.one h8 _ r rfl (BH.index (y.full (XF (by decide) (by decide) (by decide)) (by rw [xh];decide)) ?_)
    rw [D];exact hbh
   ·show Xo (decide (8≤vJ a)) (Yd a)++(gT [91]::(Yd b++[gT [93]]))=_
    rw [U,List.cons_append]
  ·obtain ⟨V,G,-⟩:=y9 J
   have z:=(L a V G).kid 8
   have h8:(if 8≤vJ a then vJ a else 8)=8:=by
    split
    ·have:=zfL a
     omega
    ·rfl
   obtain ⟨Q,I,U,R⟩:=z.hd;have D:(vF a).line=0:=z.line;refine Rd.of_one (fun rest r _ hbh=>?_) rfl ⟨Q,I++[gT [46],nmT s],?_,R⟩
   ·show UN ((Xo (decide (8≤vJ a)) (Yd a)++[gT [46],nmT s])++rest) r
    rw [List.append_assoc];refine z.one h8 _ r rfl (BH.field ?_);rw [D];exact hbh
   ·show Xo (decide (8≤vJ a)) (Yd a)++[gT [46],nmT s]=_
    rw [U,List.cons_append]
def Sg (c:UInt8):Prop:=c≠61∧c≠38∧c≠124∧c≠47
def Nm (c:UInt8):Prop:=ym c.toNat=false
def Sp (c:UInt8):Prop:=Sg c∧Nm c
def U4 (_:UInt8):Prop:=True
instance (c:UInt8):Decidable (Sg c):=by unfold Sg;infer_instance
instance (c:UInt8):Decidable (Nm c):=by unfold Nm;infer_instance
instance (c:UInt8):Decidable (Sp c):=by unfold Sp;infer_instance
def Lx (P:UInt8→Prop) (t:List UInt8) (K:List Tk):Prop:=∀(m:List UInt8) (f:Nat) (us:List Tk),(∀c,m.head?=some c→P c)→xG f m=some us→∃f',xG f' (t++m)=some (K++us)
def Hd (P:UInt8→Prop) (t:List UInt8):Prop:=∃c r,t=c::r∧P c
theorem Hd.app {P:UInt8→Prop} {t:List UInt8} (h:Hd P t) (u:List UInt8):Hd P (t++u):=by
 obtain ⟨c,r,rfl,h⟩:=h;exact ⟨c,r++u,rfl,h⟩
theorem Hd.at {P:UInt8→Prop} {t:List UInt8} (h:Hd P t) (m:List UInt8) (c:UInt8) (hc:(t++m).head?=some c):P c:=by
 obtain ⟨d,r,rfl,h⟩:=h;obtain rfl:d=c:=by simpa using hc
 exact h
theorem Lx.mono {P Q:UInt8→Prop} {t:List UInt8} {K:List Tk} (h:Lx P t K) (hq:∀c,Q c→P c):Lx Q t K:=fun m f us hm hf=>h m f us (fun c hc=>hq c (hm c hc)) hf
theorem Lx.app {P Q:UInt8→Prop} {a b:List UInt8} {A B:List Tk} (h1:Lx P a A) (h2:Lx Q b B) (hd:Hd P b):Lx Q (a++b) (A++B):=fun m f us hm hf=>by
 obtain ⟨y,z⟩:=h2 m f us hm hf;obtain ⟨h,o⟩:=h1 (b++m) y (B++us) (hd.at m) z;exact ⟨h,by rw [List.append_assoc,List.append_assoc];exact o⟩
theorem Lx.nil (P:UInt8→Prop):Lx P [] []:=fun _ f _ _ hf=>⟨f,hf⟩
theorem Lx.bl {Q:UInt8→Prop} {c:UInt8} (hc:zV c.toNat=true) {b:List UInt8} {B:List Tk} (h:Lx Q b B):Lx Q (c::b) B:=fun m f us hm hf=>by
 obtain ⟨o,y⟩:=h m f us hm hf;exact ⟨o,by rw [List.cons_append,zcE hc];exact y⟩
theorem Lx.tok {t:TT} (h:zem t) {P:UInt8→Prop} (hp:∀c,P c→(t.k=4→c≠61∧c≠38∧c≠124∧c≠47)∧(t.k≠4→t.k≠3→ym c.toNat=false)):Lx P (xL t.k t.n t.s) [ttT t]:=fun _ f _ hm hf =>
 ⟨f+1,zfH h (fun c hc=>hp c (hm c hc)) hf⟩
theorem zhf {s:List UInt8} (h:s∈signsL):zem ⟨4,0,s⟩:=⟨(ZV (k:=4) (n:=0) (by decide) (by decide)).2 (.inr (.inr (.inl ⟨rfl,h,rfl⟩))),(show (4:Int)≠0 by decide),(show (0:Int)≤9223372036854775807 by decide)⟩
theorem zhg {s:List UInt8} (h:yh s=true):zem ⟨5,0,s⟩:=⟨(ZV (k:=5) (n:=0) (by decide) (by decide)).2 (.inr (.inr (.inr ⟨rfl,h,rfl⟩))),(show (5:Int)≠0 by decide),(show (0:Int)≤9223372036854775807 by decide)⟩
theorem Lx.sign {s:List UInt8} (h:s∈signsL):Lx Sg s [gT s]:=Lx.tok (zhf h) fun _ hc=>⟨fun _=>hc,fun h=>absurd rfl h⟩
theorem Lx.word {s:List UInt8} (h:yh s=true):Lx Nm s [XE s]:=Lx.tok (zhg h) fun _ hc=>⟨fun h=>absurd h (show (5:Int)≠4 by decide),fun _ _=>hc⟩
theorem Lx.one (s:UInt8) (h:[s]∈signsL) {Q:UInt8→Prop} {b:List UInt8} {B:List Tk} (hb:Lx Q b B) (hd:Hd Sg b):Lx Q (s::b) (gT [s]::B):=(Lx.sign h).app hb hd
theorem Lx.name {s t:List UInt8} (h:tokO 1 0 s=some t):Lx Nm t [nmT s]∧Hd Sg t:=by
 obtain ⟨z,y⟩:=vo h (by decide)
 have y:t=s:=y;subst y;refine ⟨Lx.tok z fun _ hc=>⟨fun h=>absurd h (show (1:Int)≠4 by decide),fun _ _=>hc⟩,?_⟩
 have o:xF t=true:=by
  rcases (ZV (k:=1) (n:=0) (by decide) (by decide)).1 z.1 with ⟨h,-⟩ | ⟨-,h,-⟩ | ⟨h,-⟩ | ⟨h,-⟩
  ·exact absurd h (by decide)
  ·exact h
  ·exact absurd h (by decide)
  ·exact absurd h (by decide)
 show Hd Sg t
 cases t with
 | nil=>simp [xF] at o
 | cons c r =>
  unfold xF at o
  simp only at o;rw [Bool.and_eq_true,Bool.and_eq_true,Bool.and_eq_true,decide_eq_true_eq] at o;obtain ⟨⟨⟨A,G⟩,H⟩,D⟩:=o;refine ⟨c,r,rfl,?_,?_,?_,?_⟩ <;> (rintro rfl;revert A;decide)
structure LxE (t:List UInt8) (K:List Tk):Prop where
 lx:Lx Sp t K
 hd:Hd Sg t
theorem zds {c:UInt8} (h:Sp c):Sg c:=h.1
theorem zby {c:UInt8} (h:Sp c):Nm c:=h.2
theorem LxE.paren {t:List UInt8} {K:List Tk} (h:LxE t K):LxE (40::(t++[41])) (gT [40]::(K++[gT [41]])) :=
 ⟨Lx.one 40 (by decide) (h.lx.app ((Lx.sign (s:=[41]) (by decide)).mono fun _=>zds) ⟨41,[],rfl,by decide⟩) (h.hd.app _),40,_,rfl,by decide⟩
theorem LxE.kid {t:List UInt8} {x:Ez} {least:Nat} {o:Option (List UInt8)} (h:kidO x least o=some t) (hx:∀v,o=some v→LxE v (Yd x)):LxE t (Xo (decide (least≤vJ x)) (Yd x)):=by
 obtain ⟨v,y,rfl⟩:=y9 h
 have:=hx v y
 unfold Xo
 by_cases hc:least≤vJ x
 ·rw [if_pos hc,if_pos (decide_eq_true hc)];exact this
 ·rw [if_neg hc,if_neg (by simpa using hc)];exact this.paren
theorem qP {α:Type} {K:α→List Tk} {kids:List α} {i:Nat} (hi:i<kids.length):(kids.take (i+1)).map K=(kids.take i).map K++[K kids[i]]:=by
 rw [List.take_succ_eq_append_getElem hi,List.map_append]
 rfl
theorem zaj {α:Type} {g:α→Option (List UInt8)} {K:α→List Tk} {kids:List α} (ih:∀x∈kids,∀t,g x=some t→LxE t (K x)):∀(i:Nat) (v:List UInt8),i≤kids.length→rowO (kids.map g) i=some v→Lx Sp v (yN ((kids.take i).map K))∧(0<i→Hd Sg v)∧(i=0→v=[])
 | 0,v,_,h=>by
  obtain rfl:=Option.some.inj h;exact ⟨Lx.nil _,fun h=>absurd h (by decide),fun _=>rfl⟩
 | i+1,v,hi,h=>by
  unfold rowO at h
  obtain ⟨a,b,D,A,rfl⟩:=zj h;obtain ⟨c,w,I,z,rfl⟩:=zj A;obtain rfl:=Option.some.inj I;obtain ⟨G,H,J⟩:=zaj ih i a (by omega) D
  rw [List.getElem?_map,List.getElem?_eq_getElem (by omega)] at z
  have o:=ih _ (List.getElem_mem (show i<kids.length by omega)) w z
  rw [qP (by omega),zep]
  by_cases h0:i=0
  ·obtain rfl:=J h0
   subst h0;refine ⟨?_,fun _=>?_,fun h=>absurd h (by omega)⟩
   ·exact o.lx
   ·exact o.hd
  ·have y:¬ (kids.take i).map K=[]:=by
    intro e
    have:((kids.take i).map K).length=0:=by rw [e];rfl
    rw [List.length_map,List.length_take] at this;omega
   rw [if_neg h0,if_neg y];exact ⟨G.app (Lx.one 44 (by decide) (Lx.bl (c:=32) (by decide) o.lx) ⟨32,w,rfl,by decide⟩) ⟨44,_,rfl,by decide⟩,fun _=>(H (by omega)).app _,fun h=>absurd h (by omega)⟩
theorem zak {α:Type} {g:α→Option (List UInt8)} {K:α→List Tk} {kids:List α} (ih:∀x∈kids,∀t,g x=some t→LxE t (K x)) {v:List UInt8} (h:rowO (kids.map g) kids.length=some v) (c:UInt8) (hc:[c]∈signsL) (hs:Sp c):Lx Sp (v++[c]) (yN (kids.map K)++[gT [c]])∧Hd Sg (v++[c]):=by
 obtain ⟨o,y,z⟩:=zaj ih kids.length v (Nat.le_refl _) h;rw [List.take_length] at o;refine ⟨o.app ((Lx.sign hc).mono fun _=>zds) ⟨c,[],rfl,hs⟩,?_⟩
 by_cases h0:kids.length=0
 ·rw [z h0];exact ⟨c,[],rfl,hs.1⟩
 ·exact (y (by omega)).app _
theorem zcG {s:List UInt8} (h:0<levelOf s):s∈signsL∧Hd Sp (32::s):=by
 obtain ⟨i,A⟩:∃i,levelOf s=i+1:=⟨levelOf s-1,by omega⟩
 have z:=YM s;have y:=zfe A;refine ⟨?_,32,s,rfl,by decide⟩
 have o:∀i,i<6→∀s∈rowT i,s∈signsL:=by decide
 exact o i (by omega) s y
theorem VO:∀(d:Nat) (x:Ez) (t:List UInt8),prE d x=some t→LxE t (Yd x)
 | 0,x,t,h=>by rw [prE] at h;cases h
 | d+1,.mk k s n kids line,t,h=>by
  have H:=VO d;have D:∀x∈kids,∀t,prE d x=some t→LxE t (Yd x):=fun x _ t h=>H x t h
  have X:Yd (.mk k s n kids line)=uT k s n (kids.map vJ) (kids.map Yd):=by rw [Yd,zdq]
  rw [X];rcases zah h with ⟨rfl,rfl,rfl,N⟩ | ⟨rfl,rfl,rfl,Y⟩ | ⟨rfl,rfl,rfl,N⟩ | ⟨rfl,rfl,rfl,N⟩ | ⟨rfl,rfl,u,v,A,o,rfl⟩ | ⟨rfl,rfl,u,v,A,o,rfl⟩ | ⟨rfl,rfl,rfl,V,v,o,rfl⟩ | ⟨rfl,rfl,R,a,u,rfl,A,rfl⟩ | ⟨rfl,rfl,W,a,b,u,v,rfl,A,o,rfl⟩ | ⟨rfl,rfl,rfl,a,b,u,v,rfl,A,o,rfl⟩ | ⟨rfl,rfl,a,u,v,rfl,A,o,rfl⟩
  ·obtain ⟨y,rfl⟩:=vo N (by decide)
   refine ⟨Lx.tok y fun c Q=>⟨fun h=>absurd h (show (2:Int)≠4 by decide),fun _ _=>Q.2⟩,?_⟩
   have U:0≤n:=by
    have:=y.1.2.2.2
    simp only at this;omega
   have T:xL 2 n []=Lib.decDigits n.toNat:=by
    show Lib.itoa n=_
    unfold Lib.itoa
    rw [if_neg (by omega)]
   show Hd Sg (xL 2 n [])
   rw [T];cases hd:Lib.decDigits n.toNat with
   | nil=>exact absurd hd (zcB _)
   | cons c r =>
    have Q:=Uj n.toNat c (by rw [hd];exact List.mem_cons_self ..)
    refine ⟨c,r,rfl,?_,?_,?_,?_⟩ <;> (rintro rfl;revert Q;decide)
  ·rcases Y with ⟨rfl,rfl⟩ | ⟨rfl,rfl⟩
   ·exact ⟨(Lx.word (by decide)).mono fun _=>zby,102,_,rfl,by decide⟩
   ·exact ⟨(Lx.word (by decide)).mono fun _=>zby,116,_,rfl,by decide⟩
  ·obtain ⟨y,rfl⟩:=vo N (by decide)
   exact ⟨Lx.tok y fun c _=>⟨fun h=>absurd h (show (3:Int)≠4 by decide),fun _ h=>absurd rfl h⟩,34,_,rfl,by decide⟩
  ·obtain ⟨y,I⟩:=Lx.name N
   exact ⟨y.mono fun _=>zby,I⟩
  ·obtain ⟨y,I⟩:=Lx.name A
   obtain ⟨L,J⟩:=zak D o 41 (by decide) (by decide)
   exact ⟨y.app (Lx.one 40 (by decide) L J) ⟨40,_,rfl,by decide⟩,I.app _⟩
  ·obtain ⟨y,I⟩:=Lx.name A
   obtain ⟨L,J⟩:=zak D o 41 (by decide) (by decide)
   exact ⟨(Lx.word (s:=[110,101,119]) (by decide)).app (Lx.bl (c:=32) (by decide) (y.app (Lx.one 40 (by decide) L J) ⟨40,_,rfl,by decide⟩)) ⟨32,_,rfl,by decide⟩,110,_,rfl,by decide⟩
  ·obtain ⟨L,J⟩:=zak D o 93 (by decide) (by decide)
   exact ⟨Lx.one 91 (by decide) L J,91,_,rfl,by decide⟩
  ·have z:=LxE.kid A fun v o=>H a v o
   have G:s∈signsL:=by rcases R with rfl | rfl <;> decide
   refine ⟨(Lx.sign G).app z.lx z.hd,?_⟩;rcases R with rfl | rfl <;> exact ⟨_,_,rfl,by decide⟩
  ·have z:=LxE.kid A fun v o=>H a v o
   have O:=LxE.kid o fun v o=>H b v o
   obtain ⟨G,-⟩:=zcG W;refine ⟨z.lx.app (Lx.bl (c:=32) (by decide) ((Lx.sign G).app (Lx.bl (c:=32) (by decide) O.lx) ⟨32,_,rfl,by decide⟩)) ⟨32,_,rfl,by decide⟩,z.hd.app _⟩
  ·have z:=LxE.kid A fun v o=>H a v o
   have O:=H b v o;refine ⟨z.lx.app (Lx.one 91 (by decide) (O.lx.app ((Lx.sign (s:=[93]) (by decide)).mono fun _=>zds) ⟨93,[],rfl,by decide⟩) (O.hd.app _)) ⟨91,_,rfl,by decide⟩,z.hd.app _⟩
  ·have z:=LxE.kid A fun v o=>H a v o
   obtain ⟨y,I⟩:=Lx.name o;refine ⟨z.lx.app (Lx.one 46 (by decide) (y.mono fun _=>zby) I) ⟨46,_,rfl,by decide⟩,z.hd.app _⟩
def uU (k:Int) (s:List UInt8) (E:List (List Tk)) (body els:List Tk):List Tk :=
 match E with
 | [a] =>
  if k=1 then XE [108,101,116]::nmT s::gT [61]::(a++[gT [59]])
  else if k=6 then XE [114,101,116,117,114,110]::(a++[gT [59]])
  else if k=7 then a++[gT [59]]
  else if k=4 then XE [105,102]::(a++(gT [123]::(body++(gT [125]::XE [101,108,115,101]::gT [123]::(els++[gT [125]])))))
  else XE (if k=5 then [119,104,105,108,101] else [105,102])::(a++(gT [123]::(body++[gT [125]])))
 | [a,b]=>a++(gT [61]::(b++[gT [59]]))
 | _=>[XE [114,101,116,117,114,110],gT [59]]
mutual
def ktS:Sz→List Tk
 | .mk k s es body els _=>uU k s (es.map Yd) (YE body) (YE els)
def YE:List Sz→List Tk
 | []=>[]
 | x::xs=>ktS x++YE xs
end
mutual
def zzS:Sz→St
 | .mk k s es body els _=>.mk k.toNat s (es.map vF) (Ul body) (Ul els) 0
def Ul:List Sz→List St
 | []=>[]
 | x::xs=>zzS x::Ul xs
end
theorem zhh (a b:List Sz):YE (a++b)=YE a++YE b:=by
 induction a with
 | nil=>rfl
 | cons x xs ih=>rw [List.cons_append,YE,YE,ih,List.append_assoc]
theorem zbz {f:Sz→Option (List UInt8)} {l:List Sz} {t:List UInt8} (h:blkO f l=some t):∃w,yL (l.map f) l.length=some w∧t=[123,10]++(w++[125]):=by
 unfold blkO at h
 obtain ⟨a,b,y,o,rfl⟩:=zj h;obtain ⟨c,e,A,z,rfl⟩:=zj o;obtain rfl:=Option.some.inj y;obtain rfl:=Option.some.inj z;exact ⟨c,A,rfl⟩
theorem zal {d:Nat} {k:Int} {s:List UInt8} {es:List Ez} {body els:List Sz} {line:Int} {t:List UInt8} (h:prS (d+1) (.mk k s es body els line)=some t) :
  (k=1∧body=[]∧els=[]∧∃a u v,es=[a]∧tokO 1 0 s=some u∧prE d a=some v∧t=[108,101,116,32]++(u++([32,61,32]++(v++[59,10])))) ∨
  (k=2∧s=[]∧body=[]∧els=[]∧∃a b u v,es=[a,b]∧ui a=true∧prE d a=some u∧prE d b=some v∧t=u++([32,61,32]++(v++[59,10]))) ∨
  (k=6∧s=[]∧body=[]∧els=[]∧es=[]∧t=[114,101,116,117,114,110]++[59,10]) ∨
  (k=6∧s=[]∧body=[]∧els=[]∧∃a u,es=[a]∧prE d a=some u∧t=[114,101,116,117,114,110]++([32]++(u++[59,10]))) ∨
  (k=7∧s=[]∧body=[]∧els=[]∧∃a u,es=[a]∧prE d a=some u∧t=u++[59,10]) ∨
  (k=4∧s=[]∧∃a u b c,es=[a]∧prE d a=some u∧blkO (prS d) body=some b∧blkO (prS d) els=some c∧t=[105,102,32]++(u++([32]++(b++([32,101,108,115,101,32]++(c++[10])))))) ∨
  ((k=3∨k=5)∧s=[]∧els=[]∧∃a u b,es=[a]∧prE d a=some u∧blkO (prS d) body=some b∧t=(if k=5 then [119,104,105,108,101,32] else [105,102,32])++(u++([32]++(b++[10])))):=by
 rw [zbo] at h
 unfold prT at h
 by_cases hst:xg k s es body.length els.length=true
 case neg=>rw [if_neg hst] at h;cases h
 case pos =>
 rw [if_pos hst] at h
 unfold xg hasX at hst
 rw [Bool.and_eq_true,Bool.and_eq_true,Bool.and_eq_true] at hst;obtain ⟨⟨⟨o,L⟩,Z⟩,Y⟩:=hst;simp only [Bool.or_eq_true,beq_iff_eq] at L Z Y
 by_cases h1:k=1
 ·subst h1
  rw [if_pos (.inl rfl)] at o;obtain ⟨a,rfl⟩:=List.length_eq_one_iff.1 (by simpa using o)
  rw [if_pos rfl] at h;obtain ⟨x1,I,z,y,rfl⟩:=zj h;obtain ⟨x2,T,A,G,rfl⟩:=zj y;obtain ⟨J,R,D,H,rfl⟩:=zj G;obtain ⟨Q,U,O,N,rfl⟩:=zj H;obtain rfl:=Option.some.inj z;obtain rfl:=Option.some.inj D;obtain rfl:=Option.some.inj N;exact .inl ⟨rfl,List.eq_nil_of_length_eq_zero (by omega),List.eq_nil_of_length_eq_zero (by omega),a,x2,Q,rfl,A,O,rfl⟩
 right
 rw [if_neg h1] at h;obtain rfl:s=[]:=by rcases L with L | L;exact absurd L h1;exact L
 by_cases h2:k=2
 ·subst h2
  rw [if_neg (by omega),if_pos rfl] at o
  obtain ⟨a,b,rfl,W⟩:∃a b,es=[a,b]∧ui a=true:=by
   match es,o with
   | [a,b],o=>exact ⟨a,b,rfl,o⟩
  rw [if_pos rfl] at h;obtain ⟨x1,I,z,y,rfl⟩:=zj h;obtain ⟨x2,T,A,G,rfl⟩:=zj y;obtain ⟨J,R,D,H,rfl⟩:=zj G;obtain rfl:=Option.some.inj A;obtain rfl:=Option.some.inj H;exact .inl ⟨rfl,rfl,List.eq_nil_of_length_eq_zero (by omega),List.eq_nil_of_length_eq_zero (by omega),a,b,x1,J,rfl,W,z,D,rfl⟩
 right
 rw [if_neg h2] at h
 by_cases h6:k=6
 ·subst h6
  rw [if_neg (by omega),if_neg (by omega),if_pos rfl] at o
  rw [if_pos rfl] at h
  match es,o with
  | [],_ =>
   obtain ⟨x1,I,z,y,rfl⟩:=zj h;obtain rfl:=Option.some.inj z;obtain rfl:=Option.some.inj y;exact .inl ⟨rfl,rfl,List.eq_nil_of_length_eq_zero (by omega),List.eq_nil_of_length_eq_zero (by omega),rfl,rfl⟩
  | [a],_ =>
   obtain ⟨x1,I,z,y,rfl⟩:=zj h;obtain ⟨x2,T,A,G,rfl⟩:=zj y;obtain ⟨J,R,D,H,rfl⟩:=zj G;obtain rfl:=Option.some.inj z;obtain rfl:=Option.some.inj A;obtain rfl:=Option.some.inj H;exact .inr (.inl ⟨rfl,rfl,List.eq_nil_of_length_eq_zero (by omega),List.eq_nil_of_length_eq_zero (by omega),a,J,rfl,D,rfl⟩)
  | _::_::_,o=>simp at o
 right
 right
 rw [if_neg h6] at h
 by_cases h7:k=7
 ·subst h7
  rw [if_pos (by omega)] at o
  obtain ⟨a,rfl⟩:=List.length_eq_one_iff.1 (by simpa using o)
  rw [if_pos rfl] at h;obtain ⟨x1,I,z,y,rfl⟩:=zj h;obtain rfl:=Option.some.inj y;exact .inl ⟨rfl,rfl,List.eq_nil_of_length_eq_zero (by omega),List.eq_nil_of_length_eq_zero (by omega),a,x1,rfl,z,rfl⟩
 right
 rw [if_neg h7] at h
 by_cases h4:k=4
 ·subst h4
  rw [if_pos (by omega)] at o
  obtain ⟨a,rfl⟩:=List.length_eq_one_iff.1 (by simpa using o)
  rw [if_pos rfl] at h;obtain ⟨x1,I,z,y,rfl⟩:=zj h;obtain ⟨x2,T,A,G,rfl⟩:=zj y;obtain ⟨J,R,D,H,rfl⟩:=zj G;obtain ⟨Q,U,O,N,rfl⟩:=zj H;obtain ⟨x5,y5,e5,X,rfl⟩:=zj N;obtain ⟨V,y6,e6,g6,rfl⟩:=zj X;obtain rfl:=Option.some.inj z;obtain rfl:=Option.some.inj D;obtain rfl:=Option.some.inj e5;obtain rfl:=Option.some.inj g6;exact .inl ⟨rfl,rfl,a,x2,Q,V,rfl,A,O,e6,rfl⟩
 right
 rw [if_neg h4] at h
 have hk:k=3∨k=5:=by
  by_cases h3:k=3
  ·exact .inl h3
  ·by_cases h5:k=5
   ·exact .inr h5
   ·rw [if_neg (by omega),if_neg h2,if_neg h6] at o
    cases o
 rw [if_pos (by omega)] at o
 obtain ⟨a,rfl⟩:=List.length_eq_one_iff.1 (by simpa using o)
 obtain ⟨x1,I,z,y,rfl⟩:=zj h;obtain ⟨x2,T,A,G,rfl⟩:=zj y;obtain ⟨J,R,D,H,rfl⟩:=zj G;obtain ⟨Q,U,O,N,rfl⟩:=zj H;obtain rfl:=Option.some.inj z;obtain rfl:=Option.some.inj D;obtain rfl:=Option.some.inj N;exact ⟨hk,rfl,List.eq_nil_of_length_eq_zero (by omega),a,x2,Q,rfl,A,O,rfl⟩
theorem Lx.then {Q:UInt8→Prop} {a b:List UInt8} {A B:List Tk} (h1:Lx U4 a A) (h2:Lx Q b B):Lx Q (a++b) (A++B):=fun m f us hm hf=>by
 obtain ⟨y,z⟩:=h2 m f us hm hf;obtain ⟨h,o⟩:=h1 (b++m) y (B++us) (fun _ _=>trivial) z
 exact ⟨h,by rw [List.append_assoc,List.append_assoc];exact o⟩
theorem Lx.nl:Lx U4 [10] []:=Lx.bl (c:=10) (by decide) (Lx.nil _)
theorem Lx.semi:Lx U4 [59,10] [gT [59]]:=Lx.one 59 (by decide) Lx.nl ⟨10,[],rfl,by decide⟩
theorem LxE.then {t b:List UInt8} {K B:List Tk} {Q:UInt8→Prop} (h:LxE t K) (h2:Lx Q b B) (hd:Hd Sp b):Lx Q (t++b) (K++B):=h.lx.app h2 hd
theorem zdv {l:List Sz} {d:Nat} (ih:∀x∈l,∀t,prS d x=some t→Lx U4 t (ktS x)):∀(i:Nat) (v:List UInt8),i≤l.length→yL (l.map (prS d)) i=some v→Lx U4 v (YE (l.take i))
 | 0,v,_,h=>by
  obtain rfl:=Option.some.inj h;exact Lx.nil _
 | i+1,v,hi,h=>by
  unfold yL at h
  obtain ⟨a,b,z,o,rfl⟩:=zj h;rw [List.getElem?_map,List.getElem?_eq_getElem (by omega)] at o
  have y:=ih _ (List.getElem_mem (show i<l.length by omega)) b o
  rw [List.take_succ_eq_append_getElem (by omega),zhh]
  refine (zdv ih i a (by omega) z).then ?_
  show Lx U4 b (ktS l[i]++[])
  rw [List.append_nil];exact y
theorem Um {l:List Sz} {d:Nat} (ih:∀x∈l,∀t,prS d x=some t→Lx U4 t (ktS x)) {t:List UInt8} (h:blkO (prS d) l=some t):Lx Sg t (gT [123]::(YE l++[gT [125]]))∧Hd Sg t:=by
 obtain ⟨w,y,rfl⟩:=zbz h;have o:=zdv ih l.length w (Nat.le_refl _) y;rw [List.take_length] at o;exact ⟨Lx.one 123 (by decide) (Lx.bl (c:=10) (by decide) (o.then (Lx.sign (s:=[125]) (by decide)))) ⟨10,_,rfl,by decide⟩,123,_,rfl,by decide⟩
theorem zfM:∀(d:Nat) (x:Sz) (t:List UInt8),prS d x=some t→Lx U4 t (ktS x)
 | 0,x,t,h=>by rw [prS] at h;cases h
 | d+1,.mk k s es body els line,t,h=>by
  have H:∀x∈body,∀t,prS d x=some t→Lx U4 t (ktS x):=fun x _ t h=>zfM d x t h
  have J:∀x∈els,∀t,prS d x=some t→Lx U4 t (ktS x):=fun x _ t h=>zfM d x t h
  have V:ktS (.mk k s es body els line)=uU k s (es.map Yd) (YE body) (YE els):=by rw [ktS]
  rw [V];have z:Sp 32:=by decide
  have A:Sp 59:=by decide
  rcases zal h with ⟨rfl,-,-,a,u,v,rfl,y,L,rfl⟩ | ⟨rfl,-,-,-,a,b,u,v,rfl,-,y,L,rfl⟩ | ⟨rfl,-,-,-,rfl,rfl⟩ | ⟨rfl,-,-,-,a,u,rfl,y,rfl⟩ | ⟨rfl,-,-,-,a,u,rfl,y,rfl⟩ | ⟨rfl,-,a,u,b,c,rfl,y,N,U,rfl⟩ | ⟨Q,-,-,a,u,b,rfl,y,N,rfl⟩
  ·obtain ⟨o,I⟩:=Lx.name y
   have G:=VO d a v L;exact (Lx.word (s:=[108,101,116]) (by decide)).app (Lx.bl (c:=32) (by decide) (o.app (Lx.bl (c:=32) (by decide) (Lx.one 61 (by decide) (Lx.bl (c:=32) (by decide) (G.then Lx.semi ⟨59,_,rfl,A⟩)) ⟨32,_,rfl,by decide⟩)) ⟨32,_,rfl,by decide⟩)) ⟨32,_,rfl,by decide⟩
  ·have o:=VO d a u y
   have G:=VO d b v L;exact o.then (Lx.bl (c:=32) (by decide) (Lx.one 61 (by decide) (Lx.bl (c:=32) (by decide) (G.then Lx.semi ⟨59,_,rfl,A⟩)) ⟨32,_,rfl,by decide⟩)) ⟨32,_,rfl,z⟩
  ·exact (Lx.word (s:=[114,101,116,117,114,110]) (by decide)).app Lx.semi ⟨59,_,rfl,by decide⟩
  ·have o:=VO d a u y
   exact (Lx.word (s:=[114,101,116,117,114,110]) (by decide)).app (Lx.bl (c:=32) (by decide) (o.then Lx.semi ⟨59,_,rfl,A⟩)) ⟨32,_,rfl,by decide⟩
  ·have o:=VO d a u y
   exact o.then Lx.semi ⟨59,_,rfl,A⟩
  ·have o:=VO d a u y
   obtain ⟨I,-⟩:=Um H N;obtain ⟨G,-⟩:=Um J U;have D:Lx U4 (c++[10]) ((gT [123]::(YE els++[gT [125]]))++[]):=G.app Lx.nl ⟨10,_,rfl,by decide⟩
   rw [List.append_nil] at D;have O:Lx U4 ([101,108,115,101]++(32::(c++[10]))) ([XE [101,108,115,101]]++(gT [123]::(YE els++[gT [125]]))):=(Lx.word (by decide)).app (Lx.bl (c:=32) (by decide) D) ⟨32,_,rfl,by decide⟩
   have T:=I.app (Lx.bl (c:=32) (by decide) O) ⟨32,_,rfl,by decide⟩
   have R:=(Lx.word (s:=[105,102]) (by decide)).app (Lx.bl (c:=32) (by decide) (o.then (Lx.bl (c:=32) (by decide) T) ⟨32,_,rfl,z⟩)) ⟨32,_,rfl,by decide⟩
   have e:uU 4 s ([a].map Yd) (YE body) (YE els)=[XE [105,102]]++(Yd a++((gT [123]::(YE body++[gT [125]]))++([XE [101,108,115,101]]++(gT [123]::(YE els++[gT [125]]))))):=by
    show XE [105,102]::(Yd a++(gT [123]::(YE body++(gT [125]::XE [101,108,115,101]::gT [123]::(YE els++[gT [125]])))))=_
    simp
   rw [e];exact R
  ·have o:=VO d a u y
   obtain ⟨I,-⟩:=Um H N;have D:Lx U4 (b++[10]) ((gT [123]::(YE body++[gT [125]]))++[]):=I.app Lx.nl ⟨10,_,rfl,by decide⟩
   rw [List.append_nil] at D;rcases Q with rfl | rfl
   ·exact (Lx.word (s:=[105,102]) (by decide)).app (Lx.bl (c:=32) (by decide) (o.then (Lx.bl (c:=32) (by decide) D) ⟨32,_,rfl,z⟩)) ⟨32,_,rfl,by decide⟩
   ·exact (Lx.word (s:=[119,104,105,108,101]) (by decide)).app (Lx.bl (c:=32) (by decide) (o.then (Lx.bl (c:=32) (by decide) D) ⟨32,_,rfl,z⟩)) ⟨32,_,rfl,by decide⟩
end Go.Proofs.YtcphojjpapgblaaGreatDoor
