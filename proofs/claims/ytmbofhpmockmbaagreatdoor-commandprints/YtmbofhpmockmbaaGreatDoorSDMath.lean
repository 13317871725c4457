import Derived.Test.YtmbofhpmockmbaaGreatDoorMC21
namespace Go.Proofs.YtmbofhpmockmbaaGreatDoor
open Go.RowKit Go.Shelf
abbrev RS:=Bool × List Tk
def zU (s:List UInt8) (σ:RS):Bool:=!σ.1&&zk (zu σ.2) s
def ZB (s:List UInt8) (σ:RS):RS:=if zU s σ=true then (false,σ.2.tail) else σ
def Za (s:List UInt8) (σ:RS):RS:=if zU s σ=true then (false,σ.2.tail) else (true,σ.2)
def nameF (σ:RS):List UInt8 × RS:=if σ.1=false∧(zu σ.2).k=1 then ((zu σ.2).s,(false,σ.2.tail)) else ([],(true,σ.2))
mutual
def yO:Nat→Nat→RS→Option (Ex × RS)
 | 0,_,_=>none
 | f+1,line,σ=>if line=6 then ZL f σ else (yO f (line+1) σ).bind fun q=>yu f line q.1 q.2
def yu:Nat→Nat→Ex→RS→Option (Ex × RS)
 | 0,_,_,_=>none
 | f+1,line,e,σ=>if σ.1=false∧(zu σ.2).k=4∧levelOf (zu σ.2).s=line+1 then (yO f (line+1) (false,σ.2.tail)).bind fun q=>yu f line (.mk 7 (zu σ.2).s 0 [e,q.1] e.line) q.2 else some (e,σ)
def ZL:Nat→RS→Option (Ex × RS)
 | 0,_=>none
 | f+1,σ =>
  if zU [45] σ=true then (ZL f (false,σ.2.tail)).bind fun q=>some (.mk 6 [45] 0 [q.1] (zu σ.2).line,q.2)
  else if zU [33] σ=true then (ZL f (false,σ.2.tail)).bind fun q=>some (.mk 6 [33] 0 [q.1] (zu σ.2).line,q.2)
  else (yb f σ).bind fun q=>zV f q.1 q.2
def zV:Nat→Ex→RS→Option (Ex × RS)
 | 0,_,_=>none
 | f+1,e,σ =>
  if zU [91] σ=true then (yO f 0 (false,σ.2.tail)).bind fun q=>zV f (.mk 8 [] 0 [e,q.1] e.line) (Za [93] q.2)
  else if zU [46] σ=true then zV f (.mk 9 (nameF (false,σ.2.tail)).1 0 [e] e.line) (nameF (false,σ.2.tail)).2
  else some (e,σ)
def yb:Nat→RS→Option (Ex × RS)
 | 0,_=>none
 | f+1,σ =>
  if σ.1=true then some (.mk 0 [] 0 [] (zu σ.2).line,σ)
  else if (zu σ.2).k=2 then some (.mk 1 [] (zu σ.2).n [] (zu σ.2).line,(false,σ.2.tail))
  else if (zu σ.2).k=3 then some (.mk 3 (zu σ.2).s 0 [] (zu σ.2).line,(false,σ.2.tail))
  else if zk (zu σ.2) [116,114,117,101]=true then some (.mk 2 [] 1 [] (zu σ.2).line,(false,σ.2.tail))
  else if zk (zu σ.2) [102,97,108,115,101]=true then some (.mk 2 [] 0 [] (zu σ.2).line,(false,σ.2.tail))
  else if zk (zu σ.2) [110,101,119]=true then (ZN f [41] false (Za [40] (nameF (false,σ.2.tail)).2)).bind fun l=>some (.mk 11 (nameF (false,σ.2.tail)).1 0 l.1 (zu σ.2).line,l.2)
  else if zk (zu σ.2) [91]=true then (ZN f [93] true (false,σ.2.tail)).bind fun l=>some (.mk 10 [] 0 l.1 (zu σ.2).line,l.2)
  else if zk (zu σ.2) [40]=true then (yO f 0 (false,σ.2.tail)).bind fun q=>some (q.1,Za [41] q.2)
  else if (zu σ.2).k=1 then
   if zk (zu σ.2.tail) [40]=true then (ZN f [41] false (false,σ.2.tail.tail)).bind fun l=>some (.mk 5 (zu σ.2).s 0 l.1 (zu σ.2).line,l.2)
   else some (.mk 4 (zu σ.2).s 0 [] (zu σ.2).line,(false,σ.2.tail))
  else some (.mk 0 [] 0 [] (zu σ.2).line,(true,σ.2))
def ZN:Nat→List UInt8→Bool→RS→Option (List Ex × RS)
 | 0,_,_,_=>none
 | f+1,end0,some0,σ=>if some0=false∧zU end0 σ=true then some ([],(false,σ.2.tail)) else (Y2 f [] σ).bind fun l=>some (l.1,Za end0 l.2)
def Y2:Nat→List Ex→RS→Option (List Ex × RS)
 | 0,_,_=>none
 | f+1,pre,σ=>if σ.1=true then some (pre,σ) else (yO f 0 σ).bind fun q=>if zU [44] q.2=true then Y2 f (pre++[q.1]) (false,q.2.2.tail) else some (pre++[q.1],q.2)
end
def Yi {α:Type} (r:PR α) (q:α × RS):Prop :=
 match r with
 | .ok (y,us)=>q=(y,(false,us))
 | .error a=>q.2.1=true∧(zu q.2.2).at0=a
def WdT (t:Tk):Prop:=t.k=5→t.s≠[45]∧t.s≠[33]
def Xi (ts:List Tk):Prop:=∀t∈ts,WdT t
theorem Xi.tail {ts:List Tk} (h:Xi ts):Xi ts.tail:=fun t ht=>h t (List.mem_of_mem_tail ht)
theorem Xi.hd {ts:List Tk} (h:Xi ts):WdT (zu ts):=by
 cases ts with
 | nil=>intro e;simp [zu] at e
 | cons t us=>exact h t (List.mem_cons_self ..)
theorem Q2 (s:List UInt8) (ts:List Tk):zU s (true,ts)=false:=by simp [zU]
theorem yP (s:List UInt8) (ts:List Tk):zU s (false,ts)=zk (zu ts) s:=by simp [zU]
theorem Yj (s:List UInt8) (ts:List Tk):Za s (true,ts)=(true,ts):=by simp [Za,zU]
theorem Qh (ts:List Tk) (F:Nat) (h:1≤F) (pre:List Ex):Y2 F pre (true,ts)=some (pre,(true,ts)):=by
 obtain ⟨G,rfl⟩:∃G,F=G+1:=⟨F-1,by omega⟩
 rw [Y2,if_pos rfl]
theorem vT (ts:List Tk) (F:Nat) (h:2≤F) (s:List UInt8) (b:Bool):ZN F s b (true,ts)=some ([],(true,ts)):=by
 obtain ⟨G,rfl⟩:∃G,F=G+1:=⟨F-1,by omega⟩
 rw [ZN,if_neg (by simp [zU]),Qh ts G (by omega) []]
 rfl
theorem vU (ts:List Tk) (F:Nat) (h:1≤F) (line:Nat) (e:Ex):yu F line e (true,ts)=some (e,(true,ts)):=by
 obtain ⟨G,rfl⟩:∃G,F=G+1:=⟨F-1,by omega⟩
 rw [yu,if_neg (by simp)]
theorem yW (ts:List Tk) (F:Nat) (h:1≤F) (e:Ex):zV F e (true,ts)=some (e,(true,ts)):=by
 obtain ⟨G,rfl⟩:∃G,F=G+1:=⟨F-1,by omega⟩
 rw [zV,if_neg (by simp [zU]),if_neg (by simp [zU])]
theorem zP {α β:Type} {x:Option (PR α)} {k:α→List Tk→Option (PR β)} {r:PR β} (h:zo x k=some r):(∃a,x=some (.error a)∧r=.error a)∨∃y us,x=some (.ok (y,us))∧k y us=some r:=by
 unfold zo at h
 cases x with
 | none=>cases h
 | some x =>
  cases x with
  | error a=>exact .inl ⟨a,rfl,(Option.some.inj h).symm⟩
  | ok p=>exact .inr ⟨p.1,p.2,rfl,h⟩
theorem Zt {α:Type} {y:α} {us:List Tk} {q:α × RS} (h:Yi (.ok (y,us)) q):q=(y,(false,us)):=h
theorem Zi {α:Type} {a:Nat} {q:α × RS} (h:Yi (.error a:PR α) q):∃y e,q=(y,(true,e))∧(zu e).at0=a:=by
 obtain ⟨y,b,e⟩:=q;obtain ⟨z,o⟩:=h;simp only at z o;subst z;exact ⟨y,e,rfl,o⟩
theorem Vp {t:Tk} (h:WdT t):(t.k=4∧(t.s=[45]∨t.s=[33]))↔(zk t [45]=true∨zk t [33]=true):=by
 unfold zk
 constructor
 ·rintro ⟨e,h | h⟩ <;> simp [e,h]
 ·intro y
  simp only [Bool.and_eq_true,Bool.or_eq_true,beq_iff_eq] at y;rcases y with ⟨e | o,h⟩ | ⟨e | o,h⟩
  ·exact ⟨e,.inl h⟩
  ·exact absurd h ((‹WdT t› o).1)
  ·exact ⟨e,.inr h⟩
  ·exact absurd h ((‹WdT t› o).2)
theorem ZR {s:List UInt8} {ts us:List Tk} {y:Unit} (h:Zg s ts=some (.ok (y,us))) {P:Tk→Prop} (hE:∀t∈ts,P t):∀t∈us,P t:=by
 unfold Zg at h
 split at h
 ·simp only [Option.some.injEq,Except.ok.injEq,Prod.mk.injEq] at h
  rw [←h.2];exact fun t ht=>hE t (List.mem_of_mem_tail ht)
 ·cases h
theorem yQ {s:List UInt8} {ts us:List Tk} (h:yD ts=some (.ok (s,us))) {P:Tk→Prop} (hE:∀t∈ts,P t):∀t∈us,P t:=by
 unfold yD at h
 split at h
 ·simp only [Option.some.injEq,Except.ok.injEq,Prod.mk.injEq] at h
  rw [←h.2];exact fun t ht=>hE t (List.mem_of_mem_tail ht)
 ·cases h
theorem zS {ts:List Tk} {P:Tk→Prop} (hE:∀t∈ts,P t):∀t∈ts.tail,P t:=fun t ht=>hE t (List.mem_of_mem_tail ht)
theorem Yk {P:Tk→Prop} (f:Nat) :
  (∀least ts x us,zg f least ts=some (.ok (x,us))→(∀t∈ts,P t)→∀t∈us,P t)∧(∀least e ts x us,zZ f least e ts=some (.ok (x,us))→(∀t∈ts,P t)→∀t∈us,P t) ∧
  (∀ts x us,zW f ts=some (.ok (x,us))→(∀t∈ts,P t)→∀t∈us,P t)∧(∀e ts x us,zp f e ts=some (.ok (x,us))→(∀t∈ts,P t)→∀t∈us,P t)∧(∀ts x us,zA f ts=some (.ok (x,us))→(∀t∈ts,P t)→∀t∈us,P t) ∧
  (∀pre ts x us,ZO f pre ts=some (.ok (x,us))→(∀t∈ts,P t)→∀t∈us,P t)∧(∀ts x us,zw f ts=some (.ok (x,us))→(∀t∈ts,P t)→∀t∈us,P t):=by
 induction f with
 | zero=>refine ⟨?_,?_,?_,?_,?_,?_,?_⟩ <;> intros <;> simp_all [zg,zZ,zW,zp,zA,ZO,zw]
 | succ f ih =>
  obtain ⟨i1,R,Q,N,U,L,O⟩:=ih;refine ⟨fun least ts x us h hE=>?_,fun least e ts x us h hE=>?_,fun ts x us h hE=>?_,fun e ts x us h hE=>?_,fun ts x us h hE=>?_,fun pre ts x us h hE=>?_,fun ts x us h hE=>?_⟩
  ·rw [zg] at h
   split at h
   ·exact Q _ _ _ h hE
   ·obtain ⟨y,D,A,o⟩:=ze h
    exact R _ _ _ _ _ o (i1 _ _ _ _ A hE)
  ·rw [zZ] at h
   split at h
   ·obtain ⟨y,D,A,o⟩:=ze h
    exact R _ _ _ _ _ o (i1 _ _ _ _ A (zS hE))
   ·obtain ⟨rfl,rfl⟩:=zF h;exact hE
  ·rw [zW] at h
   split at h
   ·obtain ⟨y,D,A,o⟩:=ze h
    obtain ⟨rfl,rfl⟩:=zF o;exact Q _ _ _ A (zS hE)
   ·obtain ⟨y,D,A,o⟩:=ze h
    exact N _ _ _ _ o (U _ _ _ A hE)
  ·rw [zp] at h
   split at h
   ·obtain ⟨y,D,A,o⟩:=ze h
    obtain ⟨z,I,E,G⟩:=ze o;exact N _ _ _ _ G (ZR E (i1 _ _ _ _ A (zS hE)))
   split at h
   ·obtain ⟨y,D,A,o⟩:=ze h
    exact N _ _ _ _ o (yQ A (zS hE))
   ·obtain ⟨rfl,rfl⟩:=zF h;exact hE
  ·rw [zA] at h
   split at h
   ·obtain ⟨rfl,rfl⟩:=zF h;exact zS hE
   split at h
   ·obtain ⟨rfl,rfl⟩:=zF h;exact zS hE
   split at h
   ·split at h
    ·obtain ⟨y,D,A,o⟩:=ze h
     obtain ⟨rfl,rfl⟩:=zF o;exact O _ _ _ A (zS hE)
    ·obtain ⟨rfl,rfl⟩:=zF h;exact zS hE
   split at h
   ·obtain ⟨rfl,rfl⟩:=zF h;exact zS hE
   split at h
   ·obtain ⟨rfl,rfl⟩:=zF h;exact zS hE
   split at h
   ·obtain ⟨y,D,A,o⟩:=ze h
    obtain ⟨z,I,E,G⟩:=ze o;obtain ⟨rfl,rfl⟩:=zF G;exact O _ _ _ E (yQ A (zS hE))
   split at h
   ·obtain ⟨y,D,A,o⟩:=ze h
    obtain ⟨z,I,E,G⟩:=ze o;obtain ⟨rfl,rfl⟩:=zF G;exact ZR E (L _ _ _ _ A (zS hE))
   ·obtain ⟨y,D,A,o⟩:=ze h
    obtain ⟨z,I,E,G⟩:=ze o;obtain ⟨T,K,M,J⟩:=ze G;obtain ⟨rfl,rfl⟩:=zF J;exact ZR M (i1 _ _ _ _ E (ZR A hE))
  ·rw [ZO] at h
   obtain ⟨y,D,A,o⟩:=ze h;have H:=i1 _ _ _ _ A hE
   split at o
   ·exact L _ _ _ _ o (zS H)
   ·obtain ⟨rfl,rfl⟩:=zF o;exact H
  ·rw [zw] at h
   obtain ⟨y,D,A,o⟩:=ze h;have H:=ZR A hE
   split at o
   ·obtain ⟨rfl,rfl⟩:=zF o;exact zS H
   ·obtain ⟨z,I,E,G⟩:=ze o
    obtain ⟨T,K,M,J⟩:=ze G;obtain ⟨rfl,rfl⟩:=zF J;exact ZR M (L _ _ _ _ E H)
def AgN (s:List UInt8) (ts:List Tk) (r:PR Unit):Prop:=match r with | .ok (_,us)=>Za s (false,ts)=(false,us) | .error a=>Za s (false,ts)=(true,ts)∧(zu ts).at0=a
theorem zY {s:List UInt8} {ts:List Tk} {r:PR Unit} (h:Zg s ts=some r):AgN s ts r:=by
 unfold Zg at h
 simp only [Option.some.injEq] at h;subst h
 by_cases hc:zk (zu ts) s=true
 ·rw [if_pos hc]
  show Za s (false,ts)=_
  simp only [Za,yP,hc,if_true]
 ·rw [if_neg hc]
  exact ⟨by simp only [Za,yP];rw [if_neg hc],rfl⟩
theorem yX {ts:List Tk} {r:PR (List UInt8)} (h:yD ts=some r):Yi r (nameF (false,ts)):=by
 unfold yD at h
 simp only [Option.some.injEq] at h;subst h
 by_cases hc:(zu ts).k=1
 ·rw [if_pos hc]
  show nameF (false,ts)=_
  simp [nameF,hc]
 ·rw [if_neg hc]
  refine ⟨?_,?_⟩ <;> simp [nameF,hc]
theorem zaO (f:Nat) :
  (∀line ts r,line≤6→zg f (line+1) ts=some r→Xi ts→∀F,2*f+10≤F→∃q,yO F line (false,ts)=some q∧Yi r q) ∧
  (∀line e ts r,line≤5→zZ f (line+1) e ts=some r→Xi ts→∀F,2*f+10≤F→∃q,yu F line e (false,ts)=some q∧Yi r q) ∧
  (∀ts r,zW f ts=some r→Xi ts→∀F,2*f+10≤F→∃q,ZL F (false,ts)=some q∧Yi r q) ∧
  (∀e ts r,zp f e ts=some r→Xi ts→∀F,2*f+10≤F→∃q,zV F e (false,ts)=some q∧Yi r q) ∧
  (∀ts r,zA f ts=some r→Xi ts→∀F,2*f+10≤F→∃q,yb F (false,ts)=some q∧Yi r q) ∧
  (∀pre ts r,ZO f pre ts=some r→Xi ts→∀F,2*f+10≤F→∃q,Y2 F pre (false,ts)=some q∧Yi r q) ∧
  (∀ts r,zw f ts=some r→Xi ts→∀F,2*f+10≤F→∃q,ZN F [41] false (Za [40] (false,ts))=some q∧Yi r q):=by
 induction f with
 | zero=>refine ⟨?_,?_,?_,?_,?_,?_,?_⟩ <;> intros <;> simp_all [zg,zZ,zW,zp,zA,ZO,zw]
 | succ f ih =>
  obtain ⟨i1,i2,Z,i4,i5,Y,i7⟩:=ih;have up:∀F,2*(f+1)+10≤F→∃G,F=G+1∧2*f+10≤G∧2*f+11≤G:=fun F h=>⟨F-1,by omega,by omega,by omega⟩
  refine ⟨fun line ts r hl h hW F hF=>?_,fun line e ts r hl h hW F hF=>?_,fun ts r h hW F hF=>?_,fun e ts r h hW F hF=>?_,fun ts r h hW F hF=>?_,fun pre ts r h hW F hF=>?_,fun ts r h hW F hF=>?_⟩
  all_goals obtain ⟨G,rfl,L,ab⟩:=up F hF
  ·rw [zg] at h
   rw [yO]
   by_cases U:line=6
   ·rw [if_pos (by omega)] at h
    rw [if_pos U];exact Z _ _ h hW G L
   ·rw [if_neg (by omega)] at h
    rw [if_neg U];rcases zP h with ⟨a,o,rfl⟩ | ⟨y,J,o,H⟩
    ·obtain ⟨q,A,D⟩:=i1 (line+1) _ _ (by omega) o hW G L
     obtain ⟨y,J,rfl,E⟩:=Zi D;rw [A];exact ⟨_,vU J G (by omega) line y,rfl,E⟩
    ·obtain ⟨q,A,D⟩:=i1 (line+1) _ _ (by omega) o hW G L
     obtain rfl:=Zt D;rw [A];exact i2 line y J r (by omega) H ((Yk f).1 _ _ _ _ o hW) G L
  ·rw [zZ] at h
   rw [yu]
   by_cases hc:(zu ts).k=4∧levelOf (zu ts).s=line+1
   ·rw [if_pos hc] at h
    rw [if_pos ⟨rfl,hc⟩];rcases zP h with ⟨a,o,rfl⟩ | ⟨y,J,o,H⟩
    ·obtain ⟨q,A,D⟩:=i1 (line+1) _ _ (by omega) o hW.tail G L
     obtain ⟨y,J,rfl,E⟩:=Zi D;simp only [A,Option.bind_some];exact ⟨_,vU J G (by omega) line _,rfl,E⟩
    ·obtain ⟨q,A,D⟩:=i1 (line+1) _ _ (by omega) o hW.tail G L
     obtain rfl:=Zt D;simp only [A,Option.bind_some];exact i2 line _ J r hl H ((Yk f).1 _ _ _ _ o hW.tail) G L
   ·rw [if_neg hc] at h
    rw [if_neg (fun h=>hc h.2)]
    simp only [Option.some.injEq] at h;subst h;exact ⟨_,rfl,rfl⟩
  ·rw [zW] at h
   rw [ZL];simp only [yP]
   by_cases hc:(zu ts).k=4∧((zu ts).s=[45]∨(zu ts).s=[33])
   ·rw [if_pos hc] at h
    rcases (Vp hW.hd).1 hc with T | R
    ·rw [if_pos T]
     have hs:(zu ts).s=[45]:=by unfold zk at T;simp at T;exact T.2
     rcases zP h with ⟨a,o,rfl⟩ | ⟨y,J,o,H⟩
     ·obtain ⟨q,A,D⟩:=Z _ _ o hW.tail G L
      obtain ⟨y,J,rfl,E⟩:=Zi D;simp only [A,Option.bind_some];exact ⟨_,rfl,rfl,E⟩
     ·obtain ⟨q,A,D⟩:=Z _ _ o hW.tail G L
      obtain rfl:=Zt D;simp only [Option.some.injEq] at H;subst H;simp only [A,Option.bind_some];exact ⟨_,rfl,by rw [hs];rfl⟩
    ·have hs:(zu ts).s=[33]:=by unfold zk at R;simp at R;exact R.2
     rw [if_neg (by unfold zk;simp [hs]),if_pos R]
     rcases zP h with ⟨a,o,rfl⟩ | ⟨y,J,o,H⟩
     ·obtain ⟨q,A,D⟩:=Z _ _ o hW.tail G L
      obtain ⟨y,J,rfl,E⟩:=Zi D;simp only [A,Option.bind_some];exact ⟨_,rfl,rfl,E⟩
     ·obtain ⟨q,A,D⟩:=Z _ _ o hW.tail G L
      obtain rfl:=Zt D;simp only [Option.some.injEq] at H;subst H;simp only [A,Option.bind_some];exact ⟨_,rfl,by rw [hs];rfl⟩
   ·rw [if_neg hc] at h
    rw [if_neg (fun e=>hc ((Vp hW.hd).2 (.inl e))),if_neg (fun e=>hc ((Vp hW.hd).2 (.inr e)))]
    rcases zP h with ⟨a,o,rfl⟩ | ⟨y,J,o,H⟩
    ·obtain ⟨q,A,D⟩:=i5 _ _ o hW G L
     obtain ⟨y,J,rfl,E⟩:=Zi D;simp only [A,Option.bind_some];exact ⟨_,yW J G (by omega) _,rfl,E⟩
    ·obtain ⟨q,A,D⟩:=i5 _ _ o hW G L
     obtain rfl:=Zt D;simp only [A,Option.bind_some];exact i4 _ J r H ((Yk f).2.2.2.2.1 _ _ _ o hW) G L
  ·rw [zp] at h
   rw [zV];simp only [yP]
   by_cases hc:zk (zu ts) [91]=true
   ·rw [if_pos hc] at h ⊢
    rcases zP h with ⟨a,o,rfl⟩ | ⟨y,J,o,H⟩
    ·obtain ⟨q,A,D⟩:=i1 0 _ _ (by omega) o hW.tail G L
     obtain ⟨y,J,rfl,E⟩:=Zi D;simp only [A,Option.bind_some,Yj];exact ⟨_,yW J G (by omega) _,rfl,E⟩
    ·obtain ⟨q,A,D⟩:=i1 0 _ _ (by omega) o hW.tail G L
     obtain rfl:=Zt D;simp only [A,Option.bind_some];rcases zP H with ⟨a,M,rfl⟩ | ⟨z,vs,M,N⟩
     ·obtain ⟨I,E⟩:=zY M
      rw [I];exact ⟨_,yW J G (by omega) _,rfl,E⟩
     ·have I:=zY M
      simp only [AgN] at I;rw [I];exact i4 _ _ r N (ZR M ((Yk f).1 _ _ _ _ o hW.tail)) G L
   ·rw [if_neg hc] at h ⊢
    by_cases hd:zk (zu ts) [46]=true
    ·rw [if_pos hd] at h ⊢
     rcases zP h with ⟨a,o,rfl⟩ | ⟨y,J,o,H⟩
     ·obtain ⟨z,J,A,E⟩:=Zi (yX o)
      simp only [A];exact ⟨_,yW J G (by omega) _,rfl,E⟩
     ·have A:=Zt (yX o)
      simp only [A];exact i4 _ _ r H (yQ o hW.tail) G L
    ·rw [if_neg hd] at h ⊢
     simp only [Option.some.injEq] at h;subst h;exact ⟨_,rfl,rfl⟩
  ·rw [zA] at h
   rw [yb];rw [if_neg (by simp)]
   simp only;have O:(zu ts).k=1→∀s,zk (zu ts) s=false:=fun h s=>by unfold zk;simp [h]
   by_cases c2:(zu ts).k=2
   ·rw [if_pos c2] at h ⊢
    simp only [Option.some.injEq] at h;subst h;exact ⟨_,rfl,rfl⟩
   rw [if_neg c2] at h ⊢
   by_cases c3:(zu ts).k=3
   ·rw [if_pos c3] at h ⊢
    simp only [Option.some.injEq] at h;subst h;exact ⟨_,rfl,rfl⟩
   rw [if_neg c3] at h ⊢
   by_cases c1:(zu ts).k=1
   ·rw [if_pos c1] at h
    rw [if_neg (by rw [O c1];simp),if_neg (by rw [O c1];simp),if_neg (by rw [O c1];simp),if_neg (by rw [O c1];simp),if_neg (by rw [O c1];simp),if_pos c1]
    by_cases hc:zk (zu ts.tail) [40]=true
    ·rw [if_pos hc] at h ⊢
     have I:Za [40] (false,ts.tail)=(false,ts.tail.tail):=by simp only [Za,yP,hc,if_true]
     rcases zP h with ⟨a,o,rfl⟩ | ⟨y,J,o,H⟩
     ·obtain ⟨q,A,D⟩:=i7 _ _ o hW.tail G L
      obtain ⟨y,J,rfl,E⟩:=Zi D;rw [I] at A;simp only [A,Option.bind_some];exact ⟨_,rfl,rfl,E⟩
     ·obtain ⟨q,A,D⟩:=i7 _ _ o hW.tail G L
      obtain rfl:=Zt D;rw [I] at A;simp only [Option.some.injEq] at H;subst H;simp only [A,Option.bind_some];exact ⟨_,rfl,rfl⟩
    ·rw [if_neg hc] at h ⊢
     simp only [Option.some.injEq] at h;subst h;exact ⟨_,rfl,rfl⟩
   rw [if_neg c1] at h
   by_cases c4:zk (zu ts) [116,114,117,101]=true
   ·rw [if_pos c4] at h ⊢
    simp only [Option.some.injEq] at h;subst h;exact ⟨_,rfl,rfl⟩
   rw [if_neg c4] at h ⊢
   by_cases c5:zk (zu ts) [102,97,108,115,101]=true
   ·rw [if_pos c5] at h ⊢
    simp only [Option.some.injEq] at h;subst h;exact ⟨_,rfl,rfl⟩
   rw [if_neg c5] at h ⊢
   by_cases c6:zk (zu ts) [110,101,119]=true
   ·rw [if_pos c6] at h ⊢
    rcases zP h with ⟨a,o,rfl⟩ | ⟨y,J,o,H⟩
    ·obtain ⟨z,J,A,E⟩:=Zi (yX o)
     simp only [A,Yj,vT J G (by omega),Option.bind_some]
     exact ⟨_,rfl,rfl,E⟩
    ·have A:=Zt (yX o)
     simp only [A];rcases zP H with ⟨a,M,rfl⟩ | ⟨z,vs,M,N⟩
     ·obtain ⟨q,W,D⟩:=i7 _ _ M (yQ o hW.tail) G L
      obtain ⟨y2,Q,rfl,E⟩:=Zi D;simp only [W,Option.bind_some];exact ⟨_,rfl,rfl,E⟩
     ·obtain ⟨q,W,D⟩:=i7 _ _ M (yQ o hW.tail) G L
      obtain rfl:=Zt D;simp only [Option.some.injEq] at N;subst N;simp only [W,Option.bind_some];exact ⟨_,rfl,rfl⟩
   rw [if_neg c6] at h ⊢
   by_cases c7:zk (zu ts) [91]=true
   ·rw [if_pos c7] at h ⊢
    obtain ⟨K,rfl⟩:∃K,G=K+1:=⟨G-1,by omega⟩
    have hL:ZN (K+1) [93] true (false,ts.tail)=(Y2 K [] (false,ts.tail)).bind fun l=>some (l.1,Za [93] l.2):=by rw [ZN,if_neg (by simp)]
    rw [hL];rcases zP h with ⟨a,o,rfl⟩ | ⟨y,J,o,H⟩
    ·obtain ⟨q,A,D⟩:=Y _ _ _ o hW.tail K (by omega)
     obtain ⟨y2,Q,rfl,E⟩:=Zi D;simp only [A,Option.bind_some,Yj];exact ⟨_,rfl,rfl,E⟩
    ·obtain ⟨q,A,D⟩:=Y _ _ _ o hW.tail K (by omega)
     obtain rfl:=Zt D;simp only [A,Option.bind_some];rcases zP H with ⟨a,M,rfl⟩ | ⟨z,vs,M,N⟩
     ·obtain ⟨I,E⟩:=zY M
      rw [I];exact ⟨_,rfl,rfl,E⟩
     ·have I:=zY M
      simp only [AgN] at I;rw [I];simp only [Option.some.injEq] at N;subst N;exact ⟨_,rfl,rfl⟩
   rw [if_neg c7] at h ⊢;rcases zP h with ⟨a,o,rfl⟩ | ⟨y,J,o,H⟩
   ·obtain ⟨I,E⟩:=zY o
    have c8:¬ zk (zu ts) [40]=true:=fun e=>by simp only [Za,yP,e,if_true] at I;simp at I
    rw [if_neg c8,if_neg c1];exact ⟨_,rfl,rfl,E⟩
   ·have I:=zY o
    simp only [AgN] at I
    have c8:zk (zu ts) [40]=true:=by
     unfold Zg at o
     by_cases e:zk (zu ts) [40]=true
     ·exact e
     ·rw [if_neg e] at o;simp at o
    rw [if_pos c8];simp only [Za,yP,c8,if_true,Prod.mk.injEq,true_and] at I;subst I;rcases zP H with ⟨a,M,rfl⟩ | ⟨z,vs,M,N⟩
    ·obtain ⟨q,A,D⟩:=i1 0 _ _ (by omega) M hW.tail G L
     obtain ⟨y2,Q,rfl,E⟩:=Zi D;simp only [A,Option.bind_some,Yj];exact ⟨_,rfl,rfl,E⟩
    ·obtain ⟨q,A,D⟩:=i1 0 _ _ (by omega) M hW.tail G L
     obtain rfl:=Zt D;simp only [A,Option.bind_some];rcases zP N with ⟨a,V,rfl⟩ | ⟨z2,aa,V,U⟩
     ·obtain ⟨I,E⟩:=zY V
      rw [I];exact ⟨_,rfl,rfl,E⟩
     ·have I:=zY V
      simp only [AgN] at I;rw [I];simp only [Option.some.injEq] at U;subst U;exact ⟨_,rfl,rfl⟩
  ·rw [ZO] at h
   rw [Y2,if_neg (by simp)]
   rcases zP h with ⟨a,o,rfl⟩ | ⟨y,J,o,H⟩
   ·obtain ⟨q,A,D⟩:=i1 0 _ _ (by omega) o hW G L
    obtain ⟨y2,Q,rfl,E⟩:=Zi D;simp only [A,Option.bind_some,Q2,Bool.false_eq_true,if_false];exact ⟨_,rfl,rfl,E⟩
   ·obtain ⟨q,A,D⟩:=i1 0 _ _ (by omega) o hW G L
    obtain rfl:=Zt D;simp only [A,Option.bind_some,yP]
    by_cases hc:zk (zu J) [44]=true
    ·rw [if_pos hc] at H ⊢
     exact Y _ _ r H (zS ((Yk f).1 _ _ _ _ o hW)) G L
    ·rw [if_neg hc] at H ⊢
     simp only [Option.some.injEq] at H;subst H;exact ⟨_,rfl,rfl⟩
  ·rw [zw] at h
   rcases zP h with ⟨a,o,rfl⟩ | ⟨y,J,o,H⟩
   ·obtain ⟨I,E⟩:=zY o
    rw [I,vT ts (G+1) (by omega)]
    exact ⟨_,rfl,rfl,E⟩
   ·have I:=zY o
    simp only [AgN] at I;have X:=ZR o hW;rw [I,ZN];simp only [yP,true_and]
    by_cases hc:zk (zu J) [41]=true
    ·rw [if_pos hc] at H ⊢
     simp only [Option.some.injEq] at H;subst H;exact ⟨_,rfl,rfl⟩
    ·rw [if_neg hc] at H ⊢
     rcases zP H with ⟨a,M,rfl⟩ | ⟨z,vs,M,N⟩
     ·obtain ⟨q,A,D⟩:=Y _ _ _ M X G L
      obtain ⟨y2,Q,rfl,E⟩:=Zi D;simp only [A,Option.bind_some,Yj];exact ⟨_,rfl,rfl,E⟩
     ·obtain ⟨q,A,D⟩:=Y _ _ _ M X G L
      obtain rfl:=Zt D;simp only [A,Option.bind_some];rcases zP N with ⟨a,V,rfl⟩ | ⟨z2,aa,V,U⟩
      ·obtain ⟨I,E⟩:=zY V
       rw [I];exact ⟨_,rfl,rfl,E⟩
      ·have I:=zY V
       simp only [AgN] at I;rw [I];simp only [Option.some.injEq] at U;subst U;exact ⟨_,rfl,rfl⟩
theorem Yl (s:List UInt8) (σ:RS):(Za s σ).2.length≤σ.2.length:=by
 unfold Za
 split
 ·simp
 ·exact Nat.le_refl _
theorem xM (σ:RS):(nameF σ).2.2.length≤σ.2.length:=by
 unfold nameF
 split
 ·simp
 ·exact Nat.le_refl _
theorem Zu (ts:List Tk):ts.tail.length≤ts.length:=by simp
theorem Qi (f:Nat) :
  (∀line σ q,yO f line σ=some q→q.2.2.length≤σ.2.length)∧(∀line e σ q,yu f line e σ=some q→q.2.2.length≤σ.2.length) ∧
  (∀σ q,ZL f σ=some q→q.2.2.length≤σ.2.length)∧(∀e σ q,zV f e σ=some q→q.2.2.length≤σ.2.length)∧(∀σ q,yb f σ=some q→q.2.2.length≤σ.2.length) ∧
  (∀s b σ q,ZN f s b σ=some q→q.2.2.length≤σ.2.length)∧(∀pre σ q,Y2 f pre σ=some q→q.2.2.length≤σ.2.length):=by
 induction f with
 | zero=>refine ⟨?_,?_,?_,?_,?_,?_,?_⟩ <;> intros <;> rename_i h <;> simp [yO,yu,ZL,zV,yb,ZN,Y2] at h
 | succ f ih =>
  obtain ⟨i1,H,D,E,I,A,G⟩:=ih;refine ⟨fun line σ q h=>?_,fun line e σ q h=>?_,fun σ q h=>?_,fun e σ q h=>?_,fun σ q h=>?_,fun s b σ q h=>?_,fun pre σ q h=>?_⟩
  ·rw [yO] at h
   split at h
   ·exact D _ _ h
   ·obtain ⟨y,z,o⟩:=Option.bind_eq_some_iff.1 h
    exact Nat.le_trans (H _ _ _ _ o) (i1 _ _ _ z)
  ·rw [yu] at h
   split at h
   ·obtain ⟨y,z,o⟩:=Option.bind_eq_some_iff.1 h
    exact Nat.le_trans (H _ _ _ _ o) (Nat.le_trans (i1 _ _ _ z) (Zu _))
   ·obtain rfl:=Option.some.inj h;exact Nat.le_refl _
  ·rw [ZL] at h
   split at h
   ·obtain ⟨y,z,o⟩:=Option.bind_eq_some_iff.1 h
    obtain rfl:=Option.some.inj o;have a:=D _ _ z;exact Nat.le_trans a (Zu _)
   split at h
   ·obtain ⟨y,z,o⟩:=Option.bind_eq_some_iff.1 h
    obtain rfl:=Option.some.inj o;have a:=D _ _ z;exact Nat.le_trans a (Zu _)
   ·obtain ⟨y,z,o⟩:=Option.bind_eq_some_iff.1 h
    exact Nat.le_trans (E _ _ _ o) (I _ _ z)
  ·rw [zV] at h
   split at h
   ·obtain ⟨y,z,o⟩:=Option.bind_eq_some_iff.1 h
    exact Nat.le_trans (E _ _ _ o) (Nat.le_trans (Yl _ _) (Nat.le_trans (i1 _ _ _ z) (Zu _)))
   split at h
   ·exact Nat.le_trans (E _ _ _ h) (Nat.le_trans (xM _) (Zu _))
   ·obtain rfl:=Option.some.inj h;exact Nat.le_refl _
  ·rw [yb] at h
   by_cases c:σ.1=true
   ·rw [if_pos c] at h
    obtain rfl:=Option.some.inj h;exact Nat.le_refl _
   rw [if_neg c] at h;clear c
   by_cases c:(zu σ.2).k=2
   ·rw [if_pos c] at h
    obtain rfl:=Option.some.inj h;exact Zu _
   rw [if_neg c] at h;clear c
   by_cases c:(zu σ.2).k=3
   ·rw [if_pos c] at h
    obtain rfl:=Option.some.inj h;exact Zu _
   rw [if_neg c] at h;clear c
   by_cases c:zk (zu σ.2) [116,114,117,101]=true
   ·rw [if_pos c] at h
    obtain rfl:=Option.some.inj h;exact Zu _
   rw [if_neg c] at h;clear c
   by_cases c:zk (zu σ.2) [102,97,108,115,101]=true
   ·rw [if_pos c] at h
    obtain rfl:=Option.some.inj h;exact Zu _
   rw [if_neg c] at h;clear c
   by_cases c:zk (zu σ.2) [110,101,119]=true
   ·rw [if_pos c] at h
    obtain ⟨y,z,o⟩:=Option.bind_eq_some_iff.1 h;obtain rfl:=Option.some.inj o;exact Nat.le_trans (A _ _ _ _ z) (Nat.le_trans (Yl _ _) (Nat.le_trans (xM _) (Zu _)))
   rw [if_neg c] at h;clear c
   by_cases c:zk (zu σ.2) [91]=true
   ·rw [if_pos c] at h
    obtain ⟨y,z,o⟩:=Option.bind_eq_some_iff.1 h;obtain rfl:=Option.some.inj o;exact Nat.le_trans (A _ _ _ _ z) (Zu _)
   rw [if_neg c] at h;clear c
   by_cases c:zk (zu σ.2) [40]=true
   ·rw [if_pos c] at h
    obtain ⟨y,z,o⟩:=Option.bind_eq_some_iff.1 h;obtain rfl:=Option.some.inj o;have a:=i1 _ _ _ z;exact Nat.le_trans (Yl _ _) (Nat.le_trans a (Zu _))
   rw [if_neg c] at h;clear c
   by_cases c:(zu σ.2).k=1
   ·rw [if_pos c] at h
    by_cases d:zk (zu σ.2.tail) [40]=true
    ·rw [if_pos d] at h
     obtain ⟨y,z,o⟩:=Option.bind_eq_some_iff.1 h;obtain rfl:=Option.some.inj o;exact Nat.le_trans (A _ _ _ _ z) (Nat.le_trans (Zu _) (Zu _))
    ·rw [if_neg d] at h
     obtain rfl:=Option.some.inj h;exact Zu _
   rw [if_neg c] at h;clear c;obtain rfl:=Option.some.inj h;exact Nat.le_refl _
  ·rw [ZN] at h
   split at h
   ·obtain rfl:=Option.some.inj h;exact Zu _
   ·obtain ⟨y,z,o⟩:=Option.bind_eq_some_iff.1 h
    obtain rfl:=Option.some.inj o;exact Nat.le_trans (Yl _ _) (G _ _ _ z)
  ·rw [Y2] at h
   split at h
   ·obtain rfl:=Option.some.inj h;exact Nat.le_refl _
   ·obtain ⟨y,z,o⟩:=Option.bind_eq_some_iff.1 h
    split at o
    ·exact Nat.le_trans (G _ _ _ o) (Nat.le_trans (Zu _) (i1 _ _ _ z))
    ·obtain rfl:=Option.some.inj o
     exact i1 _ _ _ z
end Go.Proofs.YtmbofhpmockmbaaGreatDoor
