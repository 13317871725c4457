import Derived.Test.YtdgpapchkpnijaaGreatDoorMC31
namespace Go.Proofs.YtdgpapchkpnijaaGreatDoor
open Go.RowKit Go.Shelf
abbrev RS:=Bool × List Tk
def ZC (s:List UInt8) (σ:RS):Bool:=!σ.1&&zo (zz σ.2) s
def yw (s:List UInt8) (σ:RS):RS:=if ZC s σ=true then (false,σ.2.tail) else σ
def ZT (s:List UInt8) (σ:RS):RS:=if ZC s σ=true then (false,σ.2.tail) else (true,σ.2)
def nameF (σ:RS):List UInt8 × RS:=if σ.1=false∧(zz σ.2).k=1 then ((zz σ.2).s,(false,σ.2.tail)) else ([],(true,σ.2))
mutual
def xn:Nat→Nat→RS→Option (Ex × RS)
 | 0,_,_=>none
 | f+1,line,σ=>if line=6 then yG f σ else (xn f (line+1) σ).bind fun q=>YL f line q.1 q.2
def YL:Nat→Nat→Ex→RS→Option (Ex × RS)
 | 0,_,_,_=>none
 | f+1,line,e,σ=>if σ.1=false∧(zz σ.2).k=4∧levelOf (zz σ.2).s=line+1 then (xn f (line+1) (false,σ.2.tail)).bind fun q=>YL f line (.mk 7 (zz σ.2).s 0 [e,q.1] e.line) q.2 else some (e,σ)
def yG:Nat→RS→Option (Ex × RS)
 | 0,_=>none
 | f+1,σ =>
  if ZC [45] σ=true then (yG f (false,σ.2.tail)).bind fun q=>some (.mk 6 [45] 0 [q.1] (zz σ.2).line,q.2)
  else if ZC [33] σ=true then (yG f (false,σ.2.tail)).bind fun q=>some (.mk 6 [33] 0 [q.1] (zz σ.2).line,q.2)
  else (Yp f σ).bind fun q=>ZD f q.1 q.2
def ZD:Nat→Ex→RS→Option (Ex × RS)
 | 0,_,_=>none
 | f+1,e,σ =>
  if ZC [91] σ=true then (xn f 0 (false,σ.2.tail)).bind fun q=>ZD f (.mk 8 [] 0 [e,q.1] e.line) (ZT [93] q.2)
  else if ZC [46] σ=true then ZD f (.mk 9 (nameF (false,σ.2.tail)).1 0 [e] e.line) (nameF (false,σ.2.tail)).2
  else some (e,σ)
def Yp:Nat→RS→Option (Ex × RS)
 | 0,_=>none
 | f+1,σ =>
  if σ.1=true then some (.mk 0 [] 0 [] (zz σ.2).line,σ)
  else if (zz σ.2).k=2 then some (.mk 1 [] (zz σ.2).n [] (zz σ.2).line,(false,σ.2.tail))
  else if (zz σ.2).k=3 then some (.mk 3 (zz σ.2).s 0 [] (zz σ.2).line,(false,σ.2.tail))
  else if zo (zz σ.2) [116,114,117,101]=true then some (.mk 2 [] 1 [] (zz σ.2).line,(false,σ.2.tail))
  else if zo (zz σ.2) [102,97,108,115,101]=true then some (.mk 2 [] 0 [] (zz σ.2).line,(false,σ.2.tail))
  else if zo (zz σ.2) [110,101,119]=true then (yK f [41] false (ZT [40] (nameF (false,σ.2.tail)).2)).bind fun l=>some (.mk 11 (nameF (false,σ.2.tail)).1 0 l.1 (zz σ.2).line,l.2)
  else if zo (zz σ.2) [91]=true then (yK f [93] true (false,σ.2.tail)).bind fun l=>some (.mk 10 [] 0 l.1 (zz σ.2).line,l.2)
  else if zo (zz σ.2) [40]=true then (xn f 0 (false,σ.2.tail)).bind fun q=>some (q.1,ZT [41] q.2)
  else if (zz σ.2).k=1 then
   if zo (zz σ.2.tail) [40]=true then (yK f [41] false (false,σ.2.tail.tail)).bind fun l=>some (.mk 5 (zz σ.2).s 0 l.1 (zz σ.2).line,l.2)
   else some (.mk 4 (zz σ.2).s 0 [] (zz σ.2).line,(false,σ.2.tail))
  else some (.mk 0 [] 0 [] (zz σ.2).line,(true,σ.2))
def yK:Nat→List UInt8→Bool→RS→Option (List Ex × RS)
 | 0,_,_,_=>none
 | f+1,end0,some0,σ=>if some0=false∧ZC end0 σ=true then some ([],(false,σ.2.tail)) else (XU f [] σ).bind fun l=>some (l.1,ZT end0 l.2)
def XU:Nat→List Ex→RS→Option (List Ex × RS)
 | 0,_,_=>none
 | f+1,pre,σ=>if σ.1=true then some (pre,σ) else (xn f 0 σ).bind fun q=>if ZC [44] q.2=true then XU f (pre++[q.1]) (false,q.2.2.tail) else some (pre++[q.1],q.2)
end
def x7 {α:Type} (r:PR α) (q:α × RS):Prop :=
 match r with
 | .ok (y,us)=>q=(y,(false,us))
 | .error a=>q.2.1=true∧(zz q.2.2).at0=a
def WdT (t:Tk):Prop:=t.k=5→t.s≠[45]∧t.s≠[33]
def VV (ts:List Tk):Prop:=∀t∈ts,WdT t
theorem VV.tail {ts:List Tk} (h:VV ts):VV ts.tail:=fun t ht=>h t (List.mem_of_mem_tail ht)
theorem VV.hd {ts:List Tk} (h:VV ts):WdT (zz ts):=by
 cases ts with
 | nil=>intro hk;simp [zz] at hk
 | cons t us=>exact h t (List.mem_cons_self ..)
theorem zek (s:List UInt8) (ts:List Tk):ZC s (true,ts)=false:=by simp [ZC]
theorem xo (s:List UInt8) (ts:List Tk):ZC s (false,ts)=zo (zz ts) s:=by simp [ZC]
theorem x8 (s:List UInt8) (ts:List Tk):ZT s (true,ts)=(true,ts):=by simp [ZT,ZC]
theorem zdq (ts:List Tk) (F:Nat) (h:1≤F) (pre:List Ex):XU F pre (true,ts)=some (pre,(true,ts)):=by
 obtain ⟨G,rfl⟩:∃G,F=G+1:=⟨F-1,by omega⟩
 rw [XU,if_pos rfl]
theorem UW (ts:List Tk) (F:Nat) (h:2≤F) (s:List UInt8) (b:Bool):yK F s b (true,ts)=some ([],(true,ts)):=by
 obtain ⟨G,rfl⟩:∃G,F=G+1:=⟨F-1,by omega⟩
 rw [yK,if_neg (by simp [ZC]),zdq ts G (by omega) []]
 rfl
theorem UX (ts:List Tk) (F:Nat) (h:1≤F) (line:Nat) (e:Ex):YL F line e (true,ts)=some (e,(true,ts)):=by
 obtain ⟨G,rfl⟩:∃G,F=G+1:=⟨F-1,by omega⟩
 rw [YL,if_neg (by simp)]
theorem xC (ts:List Tk) (F:Nat) (h:1≤F) (e:Ex):ZD F e (true,ts)=some (e,(true,ts)):=by
 obtain ⟨G,rfl⟩:∃G,F=G+1:=⟨F-1,by omega⟩
 rw [ZD,if_neg (by simp [ZC]),if_neg (by simp [ZC])]
theorem Zp {α β:Type} {x:Option (PR α)} {k:α→List Tk→Option (PR β)} {r:PR β} (h:zn x k=some r):(∃a,x=some (.error a)∧r=.error a)∨∃y us,x=some (.ok (y,us))∧k y us=some r:=by
 unfold zn at h
 cases x with
 | none=>cases h
 | some x =>
  cases x with
  | error a=>exact .inl ⟨a,rfl,(Option.some.inj h).symm⟩
  | ok p=>exact .inr ⟨p.1,p.2,rfl,h⟩
theorem yj {α:Type} {y:α} {us:List Tk} {q:α × RS} (h:x7 (.ok (y,us)) q):q=(y,(false,us)):=h
theorem Z3 {α:Type} {a:Nat} {q:α × RS} (h:x7 (.error a:PR α) q):∃y us,q=(y,(true,us))∧(zz us).at0=a:=by
 obtain ⟨y,b,us⟩:=q;obtain ⟨h1,h2⟩:=h;simp only at h1 h2;subst h1;exact ⟨y,us,rfl,h2⟩
theorem qz {t:Tk} (h:WdT t):(t.k=4∧(t.s=[45]∨t.s=[33]))↔(zo t [45]=true∨zo t [33]=true):=by
 unfold zo
 constructor
 ·rintro ⟨h4,h | h⟩ <;> simp [h4,h]
 ·intro hh
  simp only [Bool.and_eq_true,Bool.or_eq_true,beq_iff_eq] at hh;rcases hh with ⟨h4 | h5,h⟩ | ⟨h4 | h5,h⟩
  ·exact ⟨h4,.inl h⟩
  ·exact absurd h ((‹WdT t› h5).1)
  ·exact ⟨h4,.inr h⟩
  ·exact absurd h ((‹WdT t› h5).2)
theorem yO {s:List UInt8} {ts us:List Tk} {y:Unit} (h:zV s ts=some (.ok (y,us))) {P:Tk→Prop} (hE:∀t∈ts,P t):∀t∈us,P t:=by
 unfold zV at h
 split at h
 ·simp only [Option.some.injEq,Except.ok.injEq,Prod.mk.injEq] at h
  rw [←h.2];exact fun t ht=>hE t (List.mem_of_mem_tail ht)
 ·cases h
theorem xp {s:List UInt8} {ts us:List Tk} (h:yB ts=some (.ok (s,us))) {P:Tk→Prop} (hE:∀t∈ts,P t):∀t∈us,P t:=by
 unfold yB at h
 split at h
 ·simp only [Option.some.injEq,Except.ok.injEq,Prod.mk.injEq] at h
  rw [←h.2];exact fun t ht=>hE t (List.mem_of_mem_tail ht)
 ·cases h
theorem Zv {ts:List Tk} {P:Tk→Prop} (hE:∀t∈ts,P t):∀t∈ts.tail,P t:=fun t ht=>hE t (List.mem_of_mem_tail ht)
theorem x9 {P:Tk→Prop} (f:Nat) :
  (∀least ts x us,zh f least ts=some (.ok (x,us))→(∀t∈ts,P t)→∀t∈us,P t)∧(∀least e ts x us,ZI f least e ts=some (.ok (x,us))→(∀t∈ts,P t)→∀t∈us,P t) ∧
  (∀ts x us,Zw f ts=some (.ok (x,us))→(∀t∈ts,P t)→∀t∈us,P t)∧(∀e ts x us,zH f e ts=some (.ok (x,us))→(∀t∈ts,P t)→∀t∈us,P t)∧(∀ts x us,zP f ts=some (.ok (x,us))→(∀t∈ts,P t)→∀t∈us,P t) ∧
  (∀pre ts x us,yy f pre ts=some (.ok (x,us))→(∀t∈ts,P t)→∀t∈us,P t)∧(∀ts x us,zK f ts=some (.ok (x,us))→(∀t∈ts,P t)→∀t∈us,P t):=by
 induction f with
 | zero=>refine ⟨?_,?_,?_,?_,?_,?_,?_⟩ <;> intros <;> simp_all [zh,ZI,Zw,zH,zP,yy,zK]
 | succ f ih =>
  obtain ⟨i1,i2,i3,i4,i5,i6,i7⟩:=ih;refine ⟨fun least ts x us h hE=>?_,fun least e ts x us h hE=>?_,fun ts x us h hE=>?_,fun e ts x us h hE=>?_,fun ts x us h hE=>?_,fun pre ts x us h hE=>?_,fun ts x us h hE=>?_⟩
  ·rw [zh] at h
   split at h
   ·exact i3 _ _ _ h hE
   ·obtain ⟨y,vs,h1,h2⟩:=zd h
    exact i2 _ _ _ _ _ h2 (i1 _ _ _ _ h1 hE)
  ·rw [ZI] at h
   split at h
   ·obtain ⟨y,vs,h1,h2⟩:=zd h
    exact i2 _ _ _ _ _ h2 (i1 _ _ _ _ h1 (Zv hE))
   ·obtain ⟨rfl,rfl⟩:=zA h;exact hE
  ·rw [Zw] at h
   split at h
   ·obtain ⟨y,vs,h1,h2⟩:=zd h
    obtain ⟨rfl,rfl⟩:=zA h2;exact i3 _ _ _ h1 (Zv hE)
   ·obtain ⟨y,vs,h1,h2⟩:=zd h
    exact i4 _ _ _ _ h2 (i5 _ _ _ h1 hE)
  ·rw [zH] at h
   split at h
   ·obtain ⟨y,vs,h1,h2⟩:=zd h
    obtain ⟨z,xs,h3,h4⟩:=zd h2;exact i4 _ _ _ _ h4 (yO h3 (i1 _ _ _ _ h1 (Zv hE)))
   split at h
   ·obtain ⟨y,vs,h1,h2⟩:=zd h
    exact i4 _ _ _ _ h2 (xp h1 (Zv hE))
   ·obtain ⟨rfl,rfl⟩:=zA h;exact hE
  ·rw [zP] at h
   split at h
   ·obtain ⟨rfl,rfl⟩:=zA h;exact Zv hE
   split at h
   ·obtain ⟨rfl,rfl⟩:=zA h;exact Zv hE
   split at h
   ·split at h
    ·obtain ⟨y,vs,h1,h2⟩:=zd h
     obtain ⟨rfl,rfl⟩:=zA h2;exact i7 _ _ _ h1 (Zv hE)
    ·obtain ⟨rfl,rfl⟩:=zA h;exact Zv hE
   split at h
   ·obtain ⟨rfl,rfl⟩:=zA h;exact Zv hE
   split at h
   ·obtain ⟨rfl,rfl⟩:=zA h;exact Zv hE
   split at h
   ·obtain ⟨y,vs,h1,h2⟩:=zd h
    obtain ⟨z,xs,h3,h4⟩:=zd h2;obtain ⟨rfl,rfl⟩:=zA h4;exact i7 _ _ _ h3 (xp h1 (Zv hE))
   split at h
   ·obtain ⟨y,vs,h1,h2⟩:=zd h
    obtain ⟨z,xs,h3,h4⟩:=zd h2;obtain ⟨rfl,rfl⟩:=zA h4;exact yO h3 (i6 _ _ _ _ h1 (Zv hE))
   ·obtain ⟨y,vs,h1,h2⟩:=zd h
    obtain ⟨z,xs,h3,h4⟩:=zd h2;obtain ⟨z',xs',h5,h6⟩:=zd h4;obtain ⟨rfl,rfl⟩:=zA h6;exact yO h5 (i1 _ _ _ _ h3 (yO h1 hE))
  ·rw [yy] at h
   obtain ⟨y,vs,h1,h2⟩:=zd h;have hV:=i1 _ _ _ _ h1 hE
   split at h2
   ·exact i6 _ _ _ _ h2 (Zv hV)
   ·obtain ⟨rfl,rfl⟩:=zA h2;exact hV
  ·rw [zK] at h
   obtain ⟨y,vs,h1,h2⟩:=zd h;have hV:=yO h1 hE
   split at h2
   ·obtain ⟨rfl,rfl⟩:=zA h2;exact Zv hV
   ·obtain ⟨z,xs,h3,h4⟩:=zd h2
    obtain ⟨z',xs',h5,h6⟩:=zd h4;obtain ⟨rfl,rfl⟩:=zA h6;exact yO h5 (i6 _ _ _ _ h3 hV)
def AgN (s:List UInt8) (ts:List Tk) (r:PR Unit):Prop:=match r with | .ok (_,us)=>ZT s (false,ts)=(false,us) | .error a=>ZT s (false,ts)=(true,ts)∧(zz ts).at0=a
theorem ZN {s:List UInt8} {ts:List Tk} {r:PR Unit} (h:zV s ts=some r):AgN s ts r:=by
 unfold zV at h
 simp only [Option.some.injEq] at h;subst h
 by_cases hc:zo (zz ts) s=true
 ·rw [if_pos hc]
  show ZT s (false,ts)=_
  simp only [ZT,xo,hc,if_true]
 ·rw [if_neg hc]
  exact ⟨by simp only [ZT,xo];rw [if_neg hc],rfl⟩
theorem xD {ts:List Tk} {r:PR (List UInt8)} (h:yB ts=some r):x7 r (nameF (false,ts)):=by
 unfold yB at h
 simp only [Option.some.injEq] at h;subst h
 by_cases hc:(zz ts).k=1
 ·rw [if_pos hc]
  show nameF (false,ts)=_
  simp [nameF,hc]
 ·rw [if_neg hc]
  refine ⟨?_,?_⟩ <;> simp [nameF,hc]
theorem zfQ (f:Nat) :
  (∀line ts r,line≤6→zh f (line+1) ts=some r→VV ts→∀F,2*f+10≤F→∃q,xn F line (false,ts)=some q∧x7 r q) ∧
  (∀line e ts r,line≤5→ZI f (line+1) e ts=some r→VV ts→∀F,2*f+10≤F→∃q,YL F line e (false,ts)=some q∧x7 r q) ∧
  (∀ts r,Zw f ts=some r→VV ts→∀F,2*f+10≤F→∃q,yG F (false,ts)=some q∧x7 r q) ∧
  (∀e ts r,zH f e ts=some r→VV ts→∀F,2*f+10≤F→∃q,ZD F e (false,ts)=some q∧x7 r q) ∧
  (∀ts r,zP f ts=some r→VV ts→∀F,2*f+10≤F→∃q,Yp F (false,ts)=some q∧x7 r q) ∧
  (∀pre ts r,yy f pre ts=some r→VV ts→∀F,2*f+10≤F→∃q,XU F pre (false,ts)=some q∧x7 r q) ∧
  (∀ts r,zK f ts=some r→VV ts→∀F,2*f+10≤F→∃q,yK F [41] false (ZT [40] (false,ts))=some q∧x7 r q):=by
 induction f with
 | zero=>refine ⟨?_,?_,?_,?_,?_,?_,?_⟩ <;> intros <;> simp_all [zh,ZI,Zw,zH,zP,yy,zK]
 | succ f ih =>
  obtain ⟨i1,i2,i3,i4,i5,i6,i7⟩:=ih;have up:∀F,2*(f+1)+10≤F→∃G,F=G+1∧2*f+10≤G∧2*f+11≤G:=fun F h=>⟨F-1,by omega,by omega,by omega⟩
  refine ⟨fun line ts r hl h hW F hF=>?_,fun line e ts r hl h hW F hF=>?_,fun ts r h hW F hF=>?_,fun e ts r h hW F hF=>?_,fun ts r h hW F hF=>?_,fun pre ts r h hW F hF=>?_,fun ts r h hW F hF=>?_⟩
  all_goals obtain ⟨G,rfl,hG,hG1⟩:=up F hF
  ·rw [zh] at h
   rw [xn]
   by_cases h6:line=6
   ·rw [if_pos (by omega)] at h
    rw [if_pos h6];exact i3 _ _ h hW G hG
   ·rw [if_neg (by omega)] at h
    rw [if_neg h6];rcases Zp h with ⟨a,h1,rfl⟩ | ⟨y,us,h1,h2⟩
    ·obtain ⟨q,hq,hA⟩:=i1 (line+1) _ _ (by omega) h1 hW G hG
     obtain ⟨y,us,rfl,ha⟩:=Z3 hA;rw [hq];exact ⟨_,UX us G (by omega) line y,rfl,ha⟩
    ·obtain ⟨q,hq,hA⟩:=i1 (line+1) _ _ (by omega) h1 hW G hG
     obtain rfl:=yj hA;rw [hq];exact i2 line y us r (by omega) h2 ((x9 f).1 _ _ _ _ h1 hW) G hG
  ·rw [ZI] at h
   rw [YL]
   by_cases hc:(zz ts).k=4∧levelOf (zz ts).s=line+1
   ·rw [if_pos hc] at h
    rw [if_pos ⟨rfl,hc⟩];rcases Zp h with ⟨a,h1,rfl⟩ | ⟨y,us,h1,h2⟩
    ·obtain ⟨q,hq,hA⟩:=i1 (line+1) _ _ (by omega) h1 hW.tail G hG
     obtain ⟨y,us,rfl,ha⟩:=Z3 hA;simp only [hq,Option.bind_some];exact ⟨_,UX us G (by omega) line _,rfl,ha⟩
    ·obtain ⟨q,hq,hA⟩:=i1 (line+1) _ _ (by omega) h1 hW.tail G hG
     obtain rfl:=yj hA;simp only [hq,Option.bind_some];exact i2 line _ us r hl h2 ((x9 f).1 _ _ _ _ h1 hW.tail) G hG
   ·rw [if_neg hc] at h
    rw [if_neg (fun h=>hc h.2)]
    simp only [Option.some.injEq] at h;subst h;exact ⟨_,rfl,rfl⟩
  ·rw [Zw] at h
   rw [yG];simp only [xo]
   by_cases hc:(zz ts).k=4∧((zz ts).s=[45]∨(zz ts).s=[33])
   ·rw [if_pos hc] at h
    rcases (qz hW.hd).1 hc with h45 | h33
    ·rw [if_pos h45]
     have hs:(zz ts).s=[45]:=by unfold zo at h45;simp at h45;exact h45.2
     rcases Zp h with ⟨a,h1,rfl⟩ | ⟨y,us,h1,h2⟩
     ·obtain ⟨q,hq,hA⟩:=i3 _ _ h1 hW.tail G hG
      obtain ⟨y,us,rfl,ha⟩:=Z3 hA;simp only [hq,Option.bind_some];exact ⟨_,rfl,rfl,ha⟩
     ·obtain ⟨q,hq,hA⟩:=i3 _ _ h1 hW.tail G hG
      obtain rfl:=yj hA;simp only [Option.some.injEq] at h2;subst h2;simp only [hq,Option.bind_some];exact ⟨_,rfl,by rw [hs];rfl⟩
    ·have hs:(zz ts).s=[33]:=by unfold zo at h33;simp at h33;exact h33.2
     rw [if_neg (by unfold zo;simp [hs]),if_pos h33]
     rcases Zp h with ⟨a,h1,rfl⟩ | ⟨y,us,h1,h2⟩
     ·obtain ⟨q,hq,hA⟩:=i3 _ _ h1 hW.tail G hG
      obtain ⟨y,us,rfl,ha⟩:=Z3 hA;simp only [hq,Option.bind_some];exact ⟨_,rfl,rfl,ha⟩
     ·obtain ⟨q,hq,hA⟩:=i3 _ _ h1 hW.tail G hG
      obtain rfl:=yj hA;simp only [Option.some.injEq] at h2;subst h2;simp only [hq,Option.bind_some];exact ⟨_,rfl,by rw [hs];rfl⟩
   ·rw [if_neg hc] at h
    rw [if_neg (fun e=>hc ((qz hW.hd).2 (.inl e))),if_neg (fun e=>hc ((qz hW.hd).2 (.inr e)))]
    rcases Zp h with ⟨a,h1,rfl⟩ | ⟨y,us,h1,h2⟩
    ·obtain ⟨q,hq,hA⟩:=i5 _ _ h1 hW G hG
     obtain ⟨y,us,rfl,ha⟩:=Z3 hA;simp only [hq,Option.bind_some];exact ⟨_,xC us G (by omega) _,rfl,ha⟩
    ·obtain ⟨q,hq,hA⟩:=i5 _ _ h1 hW G hG
     obtain rfl:=yj hA;simp only [hq,Option.bind_some];exact i4 _ us r h2 ((x9 f).2.2.2.2.1 _ _ _ h1 hW) G hG
  ·rw [zH] at h
   rw [ZD];simp only [xo]
   by_cases hc:zo (zz ts) [91]=true
   ·rw [if_pos hc] at h ⊢
    rcases Zp h with ⟨a,h1,rfl⟩ | ⟨y,us,h1,h2⟩
    ·obtain ⟨q,hq,hA⟩:=i1 0 _ _ (by omega) h1 hW.tail G hG
     obtain ⟨y,us,rfl,ha⟩:=Z3 hA;simp only [hq,Option.bind_some,x8];exact ⟨_,xC us G (by omega) _,rfl,ha⟩
    ·obtain ⟨q,hq,hA⟩:=i1 0 _ _ (by omega) h1 hW.tail G hG
     obtain rfl:=yj hA;simp only [hq,Option.bind_some];rcases Zp h2 with ⟨a,h3,rfl⟩ | ⟨z,vs,h3,h4⟩
     ·obtain ⟨hm,ha⟩:=ZN h3
      rw [hm];exact ⟨_,xC us G (by omega) _,rfl,ha⟩
     ·have hm:=ZN h3
      simp only [AgN] at hm;rw [hm];exact i4 _ _ r h4 (yO h3 ((x9 f).1 _ _ _ _ h1 hW.tail)) G hG
   ·rw [if_neg hc] at h ⊢
    by_cases hd:zo (zz ts) [46]=true
    ·rw [if_pos hd] at h ⊢
     rcases Zp h with ⟨a,h1,rfl⟩ | ⟨y,us,h1,h2⟩
     ·obtain ⟨z,us,hq,ha⟩:=Z3 (xD h1)
      simp only [hq];exact ⟨_,xC us G (by omega) _,rfl,ha⟩
     ·have hq:=yj (xD h1)
      simp only [hq];exact i4 _ _ r h2 (xp h1 hW.tail) G hG
    ·rw [if_neg hd] at h ⊢
     simp only [Option.some.injEq] at h;subst h;exact ⟨_,rfl,rfl⟩
  ·rw [zP] at h
   rw [Yp];rw [if_neg (by simp)]
   simp only;have no1:(zz ts).k=1→∀s,zo (zz ts) s=false:=fun h s=>by unfold zo;simp [h]
   by_cases c2:(zz ts).k=2
   ·rw [if_pos c2] at h ⊢
    simp only [Option.some.injEq] at h;subst h;exact ⟨_,rfl,rfl⟩
   rw [if_neg c2] at h ⊢
   by_cases c3:(zz ts).k=3
   ·rw [if_pos c3] at h ⊢
    simp only [Option.some.injEq] at h;subst h;exact ⟨_,rfl,rfl⟩
   rw [if_neg c3] at h ⊢
   by_cases c1:(zz ts).k=1
   ·rw [if_pos c1] at h
    rw [if_neg (by rw [no1 c1];simp),if_neg (by rw [no1 c1];simp),if_neg (by rw [no1 c1];simp),if_neg (by rw [no1 c1];simp),if_neg (by rw [no1 c1];simp),if_pos c1]
    by_cases hc:zo (zz ts.tail) [40]=true
    ·rw [if_pos hc] at h ⊢
     have hm:ZT [40] (false,ts.tail)=(false,ts.tail.tail):=by simp only [ZT,xo,hc,if_true]
     rcases Zp h with ⟨a,h1,rfl⟩ | ⟨y,us,h1,h2⟩
     ·obtain ⟨q,hq,hA⟩:=i7 _ _ h1 hW.tail G hG
      obtain ⟨y,us,rfl,ha⟩:=Z3 hA;rw [hm] at hq;simp only [hq,Option.bind_some];exact ⟨_,rfl,rfl,ha⟩
     ·obtain ⟨q,hq,hA⟩:=i7 _ _ h1 hW.tail G hG
      obtain rfl:=yj hA;rw [hm] at hq;simp only [Option.some.injEq] at h2;subst h2;simp only [hq,Option.bind_some];exact ⟨_,rfl,rfl⟩
    ·rw [if_neg hc] at h ⊢
     simp only [Option.some.injEq] at h;subst h;exact ⟨_,rfl,rfl⟩
   rw [if_neg c1] at h
   by_cases c4:zo (zz ts) [116,114,117,101]=true
   ·rw [if_pos c4] at h ⊢
    simp only [Option.some.injEq] at h;subst h;exact ⟨_,rfl,rfl⟩
   rw [if_neg c4] at h ⊢
   by_cases c5:zo (zz ts) [102,97,108,115,101]=true
   ·rw [if_pos c5] at h ⊢
    simp only [Option.some.injEq] at h;subst h;exact ⟨_,rfl,rfl⟩
   rw [if_neg c5] at h ⊢
   by_cases c6:zo (zz ts) [110,101,119]=true
   ·rw [if_pos c6] at h ⊢
    rcases Zp h with ⟨a,h1,rfl⟩ | ⟨y,us,h1,h2⟩
    ·obtain ⟨z,us,hq,ha⟩:=Z3 (xD h1)
     simp only [hq,x8,UW us G (by omega),Option.bind_some]
     exact ⟨_,rfl,rfl,ha⟩
    ·have hq:=yj (xD h1)
     simp only [hq];rcases Zp h2 with ⟨a,h3,rfl⟩ | ⟨z,vs,h3,h4⟩
     ·obtain ⟨q,hq2,hA⟩:=i7 _ _ h3 (xp h1 hW.tail) G hG
      obtain ⟨y2,us2,rfl,ha⟩:=Z3 hA;simp only [hq2,Option.bind_some];exact ⟨_,rfl,rfl,ha⟩
     ·obtain ⟨q,hq2,hA⟩:=i7 _ _ h3 (xp h1 hW.tail) G hG
      obtain rfl:=yj hA;simp only [Option.some.injEq] at h4;subst h4;simp only [hq2,Option.bind_some];exact ⟨_,rfl,rfl⟩
   rw [if_neg c6] at h ⊢
   by_cases c7:zo (zz ts) [91]=true
   ·rw [if_pos c7] at h ⊢
    obtain ⟨K,rfl⟩:∃K,G=K+1:=⟨G-1,by omega⟩
    have hL:yK (K+1) [93] true (false,ts.tail)=(XU K [] (false,ts.tail)).bind fun l=>some (l.1,ZT [93] l.2):=by rw [yK,if_neg (by simp)]
    rw [hL];rcases Zp h with ⟨a,h1,rfl⟩ | ⟨y,us,h1,h2⟩
    ·obtain ⟨q,hq,hA⟩:=i6 _ _ _ h1 hW.tail K (by omega)
     obtain ⟨y2,us2,rfl,ha⟩:=Z3 hA;simp only [hq,Option.bind_some,x8];exact ⟨_,rfl,rfl,ha⟩
    ·obtain ⟨q,hq,hA⟩:=i6 _ _ _ h1 hW.tail K (by omega)
     obtain rfl:=yj hA;simp only [hq,Option.bind_some];rcases Zp h2 with ⟨a,h3,rfl⟩ | ⟨z,vs,h3,h4⟩
     ·obtain ⟨hm,ha⟩:=ZN h3
      rw [hm];exact ⟨_,rfl,rfl,ha⟩
     ·have hm:=ZN h3
      simp only [AgN] at hm;rw [hm];simp only [Option.some.injEq] at h4;subst h4;exact ⟨_,rfl,rfl⟩
   rw [if_neg c7] at h ⊢;rcases Zp h with ⟨a,h1,rfl⟩ | ⟨y,us,h1,h2⟩
   ·obtain ⟨hm,ha⟩:=ZN h1
    have c8:¬ zo (zz ts) [40]=true:=fun e=>by simp only [ZT,xo,e,if_true] at hm;simp at hm
    rw [if_neg c8,if_neg c1];exact ⟨_,rfl,rfl,ha⟩
   ·have hm:=ZN h1
    simp only [AgN] at hm
    have c8:zo (zz ts) [40]=true:=by
     unfold zV at h1
     by_cases e:zo (zz ts) [40]=true
     ·exact e
     ·rw [if_neg e] at h1;simp at h1
    rw [if_pos c8];simp only [ZT,xo,c8,if_true,Prod.mk.injEq,true_and] at hm;subst hm;rcases Zp h2 with ⟨a,h3,rfl⟩ | ⟨z,vs,h3,h4⟩
    ·obtain ⟨q,hq,hA⟩:=i1 0 _ _ (by omega) h3 hW.tail G hG
     obtain ⟨y2,us2,rfl,ha⟩:=Z3 hA;simp only [hq,Option.bind_some,x8];exact ⟨_,rfl,rfl,ha⟩
    ·obtain ⟨q,hq,hA⟩:=i1 0 _ _ (by omega) h3 hW.tail G hG
     obtain rfl:=yj hA;simp only [hq,Option.bind_some];rcases Zp h4 with ⟨a,h5,rfl⟩ | ⟨z2,vs2,h5,h6⟩
     ·obtain ⟨hm,ha⟩:=ZN h5
      rw [hm];exact ⟨_,rfl,rfl,ha⟩
     ·have hm:=ZN h5
      simp only [AgN] at hm;rw [hm];simp only [Option.some.injEq] at h6;subst h6;exact ⟨_,rfl,rfl⟩
  ·rw [yy] at h
   rw [XU,if_neg (by simp)]
   rcases Zp h with ⟨a,h1,rfl⟩ | ⟨y,us,h1,h2⟩
   ·obtain ⟨q,hq,hA⟩:=i1 0 _ _ (by omega) h1 hW G hG
    obtain ⟨y2,us2,rfl,ha⟩:=Z3 hA;simp only [hq,Option.bind_some,zek,Bool.false_eq_true,if_false];exact ⟨_,rfl,rfl,ha⟩
   ·obtain ⟨q,hq,hA⟩:=i1 0 _ _ (by omega) h1 hW G hG
    obtain rfl:=yj hA;simp only [hq,Option.bind_some,xo]
    by_cases hc:zo (zz us) [44]=true
    ·rw [if_pos hc] at h2 ⊢
     exact i6 _ _ r h2 (Zv ((x9 f).1 _ _ _ _ h1 hW)) G hG
    ·rw [if_neg hc] at h2 ⊢
     simp only [Option.some.injEq] at h2;subst h2;exact ⟨_,rfl,rfl⟩
  ·rw [zK] at h
   rcases Zp h with ⟨a,h1,rfl⟩ | ⟨y,us,h1,h2⟩
   ·obtain ⟨hm,ha⟩:=ZN h1
    rw [hm,UW ts (G+1) (by omega)]
    exact ⟨_,rfl,rfl,ha⟩
   ·have hm:=ZN h1
    simp only [AgN] at hm;have hWu:=yO h1 hW;rw [hm,yK];simp only [xo,true_and]
    by_cases hc:zo (zz us) [41]=true
    ·rw [if_pos hc] at h2 ⊢
     simp only [Option.some.injEq] at h2;subst h2;exact ⟨_,rfl,rfl⟩
    ·rw [if_neg hc] at h2 ⊢
     rcases Zp h2 with ⟨a,h3,rfl⟩ | ⟨z,vs,h3,h4⟩
     ·obtain ⟨q,hq,hA⟩:=i6 _ _ _ h3 hWu G hG
      obtain ⟨y2,us2,rfl,ha⟩:=Z3 hA;simp only [hq,Option.bind_some,x8];exact ⟨_,rfl,rfl,ha⟩
     ·obtain ⟨q,hq,hA⟩:=i6 _ _ _ h3 hWu G hG
      obtain rfl:=yj hA;simp only [hq,Option.bind_some];rcases Zp h4 with ⟨a,h5,rfl⟩ | ⟨z2,vs2,h5,h6⟩
      ·obtain ⟨hm,ha⟩:=ZN h5
       rw [hm];exact ⟨_,rfl,rfl,ha⟩
      ·have hm:=ZN h5
       simp only [AgN] at hm;rw [hm];simp only [Option.some.injEq] at h6;subst h6;exact ⟨_,rfl,rfl⟩
theorem Xa (s:List UInt8) (σ:RS):(ZT s σ).2.length≤σ.2.length:=by
 unfold ZT
 split
 ·simp
 ·exact Nat.le_refl _
theorem VB (σ:RS):(nameF σ).2.2.length≤σ.2.length:=by
 unfold nameF
 split
 ·simp
 ·exact Nat.le_refl _
theorem yk (ts:List Tk):ts.tail.length≤ts.length:=by simp
theorem zdr (f:Nat) :
  (∀line σ q,xn f line σ=some q→q.2.2.length≤σ.2.length)∧(∀line e σ q,YL f line e σ=some q→q.2.2.length≤σ.2.length) ∧
  (∀σ q,yG f σ=some q→q.2.2.length≤σ.2.length)∧(∀e σ q,ZD f e σ=some q→q.2.2.length≤σ.2.length)∧(∀σ q,Yp f σ=some q→q.2.2.length≤σ.2.length) ∧
  (∀s b σ q,yK f s b σ=some q→q.2.2.length≤σ.2.length)∧(∀pre σ q,XU f pre σ=some q→q.2.2.length≤σ.2.length):=by
 induction f with
 | zero=>refine ⟨?_,?_,?_,?_,?_,?_,?_⟩ <;> intros <;> rename_i h <;> simp [xn,YL,yG,ZD,Yp,yK,XU] at h
 | succ f ih =>
  obtain ⟨i1,i2,i3,i4,i5,i6,i7⟩:=ih;refine ⟨fun line σ q h=>?_,fun line e σ q h=>?_,fun σ q h=>?_,fun e σ q h=>?_,fun σ q h=>?_,fun s b σ q h=>?_,fun pre σ q h=>?_⟩
  ·rw [xn] at h
   split at h
   ·exact i3 _ _ h
   ·obtain ⟨y,h1,h2⟩:=Option.bind_eq_some_iff.1 h
    exact Nat.le_trans (i2 _ _ _ _ h2) (i1 _ _ _ h1)
  ·rw [YL] at h
   split at h
   ·obtain ⟨y,h1,h2⟩:=Option.bind_eq_some_iff.1 h
    exact Nat.le_trans (i2 _ _ _ _ h2) (Nat.le_trans (i1 _ _ _ h1) (yk _))
   ·obtain rfl:=Option.some.inj h;exact Nat.le_refl _
  ·rw [yG] at h
   split at h
   ·obtain ⟨y,h1,h2⟩:=Option.bind_eq_some_iff.1 h
    obtain rfl:=Option.some.inj h2;have a:=i3 _ _ h1;exact Nat.le_trans a (yk _)
   split at h
   ·obtain ⟨y,h1,h2⟩:=Option.bind_eq_some_iff.1 h
    obtain rfl:=Option.some.inj h2;have a:=i3 _ _ h1;exact Nat.le_trans a (yk _)
   ·obtain ⟨y,h1,h2⟩:=Option.bind_eq_some_iff.1 h
    exact Nat.le_trans (i4 _ _ _ h2) (i5 _ _ h1)
  ·rw [ZD] at h
   split at h
   ·obtain ⟨y,h1,h2⟩:=Option.bind_eq_some_iff.1 h
    exact Nat.le_trans (i4 _ _ _ h2) (Nat.le_trans (Xa _ _) (Nat.le_trans (i1 _ _ _ h1) (yk _)))
   split at h
   ·exact Nat.le_trans (i4 _ _ _ h) (Nat.le_trans (VB _) (yk _))
   ·obtain rfl:=Option.some.inj h;exact Nat.le_refl _
  ·rw [Yp] at h
   by_cases c:σ.1=true
   ·rw [if_pos c] at h
    obtain rfl:=Option.some.inj h;exact Nat.le_refl _
   rw [if_neg c] at h;clear c
   by_cases c:(zz σ.2).k=2
   ·rw [if_pos c] at h
    obtain rfl:=Option.some.inj h;exact yk _
   rw [if_neg c] at h;clear c
   by_cases c:(zz σ.2).k=3
   ·rw [if_pos c] at h
    obtain rfl:=Option.some.inj h;exact yk _
   rw [if_neg c] at h;clear c
   by_cases c:zo (zz σ.2) [116,114,117,101]=true
   ·rw [if_pos c] at h
    obtain rfl:=Option.some.inj h;exact yk _
   rw [if_neg c] at h;clear c
   by_cases c:zo (zz σ.2) [102,97,108,115,101]=true
   ·rw [if_pos c] at h
    obtain rfl:=Option.some.inj h;exact yk _
   rw [if_neg c] at h;clear c
   by_cases c:zo (zz σ.2) [110,101,119]=true
   ·rw [if_pos c] at h
    obtain ⟨y,h1,h2⟩:=Option.bind_eq_some_iff.1 h;obtain rfl:=Option.some.inj h2;exact Nat.le_trans (i6 _ _ _ _ h1) (Nat.le_trans (Xa _ _) (Nat.le_trans (VB _) (yk _)))
   rw [if_neg c] at h;clear c
   by_cases c:zo (zz σ.2) [91]=true
   ·rw [if_pos c] at h
    obtain ⟨y,h1,h2⟩:=Option.bind_eq_some_iff.1 h;obtain rfl:=Option.some.inj h2;exact Nat.le_trans (i6 _ _ _ _ h1) (yk _)
   rw [if_neg c] at h;clear c
   by_cases c:zo (zz σ.2) [40]=true
   ·rw [if_pos c] at h
    obtain ⟨y,h1,h2⟩:=Option.bind_eq_some_iff.1 h;obtain rfl:=Option.some.inj h2;have a:=i1 _ _ _ h1;exact Nat.le_trans (Xa _ _) (Nat.le_trans a (yk _))
   rw [if_neg c] at h;clear c
   by_cases c:(zz σ.2).k=1
   ·rw [if_pos c] at h
    by_cases d:zo (zz σ.2.tail) [40]=true
    ·rw [if_pos d] at h
     obtain ⟨y,h1,h2⟩:=Option.bind_eq_some_iff.1 h;obtain rfl:=Option.some.inj h2;exact Nat.le_trans (i6 _ _ _ _ h1) (Nat.le_trans (yk _) (yk _))
    ·rw [if_neg d] at h
     obtain rfl:=Option.some.inj h;exact yk _
   rw [if_neg c] at h;clear c;obtain rfl:=Option.some.inj h;exact Nat.le_refl _
  ·rw [yK] at h
   split at h
   ·obtain rfl:=Option.some.inj h;exact yk _
   ·obtain ⟨y,h1,h2⟩:=Option.bind_eq_some_iff.1 h
    obtain rfl:=Option.some.inj h2;exact Nat.le_trans (Xa _ _) (i7 _ _ _ h1)
  ·rw [XU] at h
   split at h
   ·obtain rfl:=Option.some.inj h;exact Nat.le_refl _
   ·obtain ⟨y,h1,h2⟩:=Option.bind_eq_some_iff.1 h
    split at h2
    ·exact Nat.le_trans (i7 _ _ _ h2) (Nat.le_trans (yk _) (i1 _ _ _ h1))
    ·obtain rfl:=Option.some.inj h2
     exact i1 _ _ _ h1
end Go.Proofs.YtdgpapchkpnijaaGreatDoor
