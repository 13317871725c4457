import Derived.Test.YtmbofhpmockmbaaGreatDoorMC20
namespace Go.Proofs.YtmbofhpmockmbaaGreatDoor
open Go.RowKit Go.Shelf
abbrev RS:=Bool × List Tk
def zW (s:List UInt8) (σ:RS):Bool:=!σ.1&&zm (zx σ.2) s
def ZG (s:List UInt8) (σ:RS):RS:=if zW s σ=true then (false,σ.2.tail) else σ
def Zd (s:List UInt8) (σ:RS):RS:=if zW s σ=true then (false,σ.2.tail) else (true,σ.2)
def nameF (σ:RS):List UInt8 × RS:=if σ.1=false∧(zx σ.2).k=1 then ((zx σ.2).s,(false,σ.2.tail)) else ([],(true,σ.2))
mutual
def yV:Nat→Nat→RS→Option (Ex × RS)
 | 0,_,_=>none
 | f+1,line,σ=>if line=6 then ZP f σ else (yV f (line+1) σ).bind fun q=>yz f line q.1 q.2
def yz:Nat→Nat→Ex→RS→Option (Ex × RS)
 | 0,_,_,_=>none
 | f+1,line,e,σ=>if σ.1=false∧(zx σ.2).k=4∧levelOf (zx σ.2).s=line+1 then (yV f (line+1) (false,σ.2.tail)).bind fun q=>yz f line (.mk 7 (zx σ.2).s 0 [e,q.1] e.line) q.2 else some (e,σ)
def ZP:Nat→RS→Option (Ex × RS)
 | 0,_=>none
 | f+1,σ =>
  if zW [45] σ=true then (ZP f (false,σ.2.tail)).bind fun q=>some (.mk 6 [45] 0 [q.1] (zx σ.2).line,q.2)
  else if zW [33] σ=true then (ZP f (false,σ.2.tail)).bind fun q=>some (.mk 6 [33] 0 [q.1] (zx σ.2).line,q.2)
  else (ye f σ).bind fun q=>zX f q.1 q.2
def zX:Nat→Ex→RS→Option (Ex × RS)
 | 0,_,_=>none
 | f+1,e,σ =>
  if zW [91] σ=true then (yV f 0 (false,σ.2.tail)).bind fun q=>zX f (.mk 8 [] 0 [e,q.1] e.line) (Zd [93] q.2)
  else if zW [46] σ=true then zX f (.mk 9 (nameF (false,σ.2.tail)).1 0 [e] e.line) (nameF (false,σ.2.tail)).2
  else some (e,σ)
def ye:Nat→RS→Option (Ex × RS)
 | 0,_=>none
 | f+1,σ =>
  if σ.1=true then some (.mk 0 [] 0 [] (zx σ.2).line,σ)
  else if (zx σ.2).k=2 then some (.mk 1 [] (zx σ.2).n [] (zx σ.2).line,(false,σ.2.tail))
  else if (zx σ.2).k=3 then some (.mk 3 (zx σ.2).s 0 [] (zx σ.2).line,(false,σ.2.tail))
  else if zm (zx σ.2) [116,114,117,101]=true then some (.mk 2 [] 1 [] (zx σ.2).line,(false,σ.2.tail))
  else if zm (zx σ.2) [102,97,108,115,101]=true then some (.mk 2 [] 0 [] (zx σ.2).line,(false,σ.2.tail))
  else if zm (zx σ.2) [110,101,119]=true then (ZR f [41] false (Zd [40] (nameF (false,σ.2.tail)).2)).bind fun l=>some (.mk 11 (nameF (false,σ.2.tail)).1 0 l.1 (zx σ.2).line,l.2)
  else if zm (zx σ.2) [91]=true then (ZR f [93] true (false,σ.2.tail)).bind fun l=>some (.mk 10 [] 0 l.1 (zx σ.2).line,l.2)
  else if zm (zx σ.2) [40]=true then (yV f 0 (false,σ.2.tail)).bind fun q=>some (q.1,Zd [41] q.2)
  else if (zx σ.2).k=1 then
   if zm (zx σ.2.tail) [40]=true then (ZR f [41] false (false,σ.2.tail.tail)).bind fun l=>some (.mk 5 (zx σ.2).s 0 l.1 (zx σ.2).line,l.2)
   else some (.mk 4 (zx σ.2).s 0 [] (zx σ.2).line,(false,σ.2.tail))
  else some (.mk 0 [] 0 [] (zx σ.2).line,(true,σ.2))
def ZR:Nat→List UInt8→Bool→RS→Option (List Ex × RS)
 | 0,_,_,_=>none
 | f+1,end0,some0,σ=>if some0=false∧zW end0 σ=true then some ([],(false,σ.2.tail)) else (xe f [] σ).bind fun l=>some (l.1,Zd end0 l.2)
def xe:Nat→List Ex→RS→Option (List Ex × RS)
 | 0,_,_=>none
 | f+1,pre,σ=>if σ.1=true then some (pre,σ) else (yV f 0 σ).bind fun q=>if zW [44] q.2=true then xe f (pre++[q.1]) (false,q.2.2.tail) else some (pre++[q.1],q.2)
end
def Yp {α:Type} (r:PR α) (q:α × RS):Prop :=
 match r with
 | .ok (y,us)=>q=(y,(false,us))
 | .error a=>q.2.1=true∧(zx q.2.2).at0=a
def WdT (t:Tk):Prop:=t.k=5→t.s≠[45]∧t.s≠[33]
def Xs (ts:List Tk):Prop:=∀t∈ts,WdT t
theorem Xs.tail {ts:List Tk} (h:Xs ts):Xs ts.tail:=fun t ht=>h t (List.mem_of_mem_tail ht)
theorem Xs.hd {ts:List Tk} (h:Xs ts):WdT (zx ts):=by
 cases ts with
 | nil=>intro e;simp [zx] at e
 | cons t us=>exact h t (List.mem_cons_self ..)
theorem zas (s:List UInt8) (ts:List Tk):zW s (true,ts)=false:=by simp [zW]
theorem yW (s:List UInt8) (ts:List Tk):zW s (false,ts)=zm (zx ts) s:=by simp [zW]
theorem Yq (s:List UInt8) (ts:List Tk):Zd s (true,ts)=(true,ts):=by simp [Zd,zW]
theorem QE (ts:List Tk) (F:Nat) (h:1≤F) (pre:List Ex):xe F pre (true,ts)=some (pre,(true,ts)):=by
 obtain ⟨G,rfl⟩:∃G,F=G+1:=⟨F-1,by omega⟩
 rw [xe,if_pos rfl]
theorem Vk (ts:List Tk) (F:Nat) (h:2≤F) (s:List UInt8) (b:Bool):ZR F s b (true,ts)=some ([],(true,ts)):=by
 obtain ⟨G,rfl⟩:∃G,F=G+1:=⟨F-1,by omega⟩
 rw [ZR,if_neg (by simp [zW]),QE ts G (by omega) []]
 rfl
theorem Vl (ts:List Tk) (F:Nat) (h:1≤F) (line:Nat) (e:Ex):yz F line e (true,ts)=some (e,(true,ts)):=by
 obtain ⟨G,rfl⟩:∃G,F=G+1:=⟨F-1,by omega⟩
 rw [yz,if_neg (by simp)]
theorem Ya (ts:List Tk) (F:Nat) (h:1≤F) (e:Ex):zX F e (true,ts)=some (e,(true,ts)):=by
 obtain ⟨G,rfl⟩:∃G,F=G+1:=⟨F-1,by omega⟩
 rw [zX,if_neg (by simp [zW]),if_neg (by simp [zW])]
theorem zR {α β:Type} {x:Option (PR α)} {k:α→List Tk→Option (PR β)} {r:PR β} (h:zq x k=some r):(∃a,x=some (.error a)∧r=.error a)∨∃y us,x=some (.ok (y,us))∧k y us=some r:=by
 unfold zq at h
 cases x with
 | none=>cases h
 | some x =>
  cases x with
  | error a=>exact .inl ⟨a,rfl,(Option.some.inj h).symm⟩
  | ok p=>exact .inr ⟨p.1,p.2,rfl,h⟩
theorem Zz {α:Type} {y:α} {us:List Tk} {q:α × RS} (h:Yp (.ok (y,us)) q):q=(y,(false,us)):=h
theorem Zl {α:Type} {a:Nat} {q:α × RS} (h:Yp (.error a:PR α) q):∃y e,q=(y,(true,e))∧(zx e).at0=a:=by
 obtain ⟨y,b,e⟩:=q;obtain ⟨z,o⟩:=h;simp only at z o;subst z;exact ⟨y,e,rfl,o⟩
theorem VK {t:Tk} (h:WdT t):(t.k=4∧(t.s=[45]∨t.s=[33]))↔(zm t [45]=true∨zm t [33]=true):=by
 unfold zm
 constructor
 ·rintro ⟨e,h | h⟩ <;> simp [e,h]
 ·intro y
  simp only [Bool.and_eq_true,Bool.or_eq_true,beq_iff_eq] at y;rcases y with ⟨e | o,h⟩ | ⟨e | o,h⟩
  ·exact ⟨e,.inl h⟩
  ·exact absurd h ((‹WdT t› o).1)
  ·exact ⟨e,.inr h⟩
  ·exact absurd h ((‹WdT t› o).2)
theorem ZV {s:List UInt8} {ts us:List Tk} {y:Unit} (h:Zj s ts=some (.ok (y,us))) {P:Tk→Prop} (hE:∀t∈ts,P t):∀t∈us,P t:=by
 unfold Zj at h
 split at h
 ·simp only [Option.some.injEq,Except.ok.injEq,Prod.mk.injEq] at h
  rw [←h.2];exact fun t ht=>hE t (List.mem_of_mem_tail ht)
 ·cases h
theorem yX {s:List UInt8} {ts us:List Tk} (h:yI ts=some (.ok (s,us))) {P:Tk→Prop} (hE:∀t∈ts,P t):∀t∈us,P t:=by
 unfold yI at h
 split at h
 ·simp only [Option.some.injEq,Except.ok.injEq,Prod.mk.injEq] at h
  rw [←h.2];exact fun t ht=>hE t (List.mem_of_mem_tail ht)
 ·cases h
theorem zU {ts:List Tk} {P:Tk→Prop} (hE:∀t∈ts,P t):∀t∈ts.tail,P t:=fun t ht=>hE t (List.mem_of_mem_tail ht)
theorem Yr {P:Tk→Prop} (f:Nat) :
  (∀least ts x us,zh f least ts=some (.ok (x,us))→(∀t∈ts,P t)→∀t∈us,P t)∧(∀least e ts x us,Za f least e ts=some (.ok (x,us))→(∀t∈ts,P t)→∀t∈us,P t) ∧
  (∀ts x us,zY f ts=some (.ok (x,us))→(∀t∈ts,P t)→∀t∈us,P t)∧(∀e ts x us,zr f e ts=some (.ok (x,us))→(∀t∈ts,P t)→∀t∈us,P t)∧(∀ts x us,zC f ts=some (.ok (x,us))→(∀t∈ts,P t)→∀t∈us,P t) ∧
  (∀pre ts x us,ZS f pre ts=some (.ok (x,us))→(∀t∈ts,P t)→∀t∈us,P t)∧(∀ts x us,zy f ts=some (.ok (x,us))→(∀t∈ts,P t)→∀t∈us,P t):=by
 induction f with
 | zero=>refine ⟨?_,?_,?_,?_,?_,?_,?_⟩ <;> intros <;> simp_all [zh,Za,zY,zr,zC,ZS,zy]
 | succ f ih =>
  obtain ⟨i1,O,R,J,T,K,Q⟩:=ih;refine ⟨fun least ts x us h hE=>?_,fun least e ts x us h hE=>?_,fun ts x us h hE=>?_,fun e ts x us h hE=>?_,fun ts x us h hE=>?_,fun pre ts x us h hE=>?_,fun ts x us h hE=>?_⟩
  ·rw [zh] at h
   split at h
   ·exact R _ _ _ h hE
   ·obtain ⟨y,D,A,o⟩:=zg h
    exact O _ _ _ _ _ o (i1 _ _ _ _ A hE)
  ·rw [Za] at h
   split at h
   ·obtain ⟨y,D,A,o⟩:=zg h
    exact O _ _ _ _ _ o (i1 _ _ _ _ A (zU hE))
   ·obtain ⟨rfl,rfl⟩:=zH h;exact hE
  ·rw [zY] at h
   split at h
   ·obtain ⟨y,D,A,o⟩:=zg h
    obtain ⟨rfl,rfl⟩:=zH o;exact R _ _ _ A (zU hE)
   ·obtain ⟨y,D,A,o⟩:=zg h
    exact J _ _ _ _ o (T _ _ _ A hE)
  ·rw [zr] at h
   split at h
   ·obtain ⟨y,D,A,o⟩:=zg h
    obtain ⟨z,I,G,E⟩:=zg o;exact J _ _ _ _ E (ZV G (i1 _ _ _ _ A (zU hE)))
   split at h
   ·obtain ⟨y,D,A,o⟩:=zg h
    exact J _ _ _ _ o (yX A (zU hE))
   ·obtain ⟨rfl,rfl⟩:=zH h;exact hE
  ·rw [zC] at h
   split at h
   ·obtain ⟨rfl,rfl⟩:=zH h;exact zU hE
   split at h
   ·obtain ⟨rfl,rfl⟩:=zH h;exact zU hE
   split at h
   ·split at h
    ·obtain ⟨y,D,A,o⟩:=zg h
     obtain ⟨rfl,rfl⟩:=zH o;exact Q _ _ _ A (zU hE)
    ·obtain ⟨rfl,rfl⟩:=zH h;exact zU hE
   split at h
   ·obtain ⟨rfl,rfl⟩:=zH h;exact zU hE
   split at h
   ·obtain ⟨rfl,rfl⟩:=zH h;exact zU hE
   split at h
   ·obtain ⟨y,D,A,o⟩:=zg h
    obtain ⟨z,I,G,E⟩:=zg o;obtain ⟨rfl,rfl⟩:=zH E;exact Q _ _ _ G (yX A (zU hE))
   split at h
   ·obtain ⟨y,D,A,o⟩:=zg h
    obtain ⟨z,I,G,E⟩:=zg o;obtain ⟨rfl,rfl⟩:=zH E;exact ZV G (K _ _ _ _ A (zU hE))
   ·obtain ⟨y,D,A,o⟩:=zg h
    obtain ⟨z,I,G,E⟩:=zg o;obtain ⟨U,L,N,M⟩:=zg E;obtain ⟨rfl,rfl⟩:=zH M;exact ZV N (i1 _ _ _ _ G (ZV A hE))
  ·rw [ZS] at h
   obtain ⟨y,D,A,o⟩:=zg h;have H:=i1 _ _ _ _ A hE
   split at o
   ·exact K _ _ _ _ o (zU H)
   ·obtain ⟨rfl,rfl⟩:=zH o;exact H
  ·rw [zy] at h
   obtain ⟨y,D,A,o⟩:=zg h;have H:=ZV A hE
   split at o
   ·obtain ⟨rfl,rfl⟩:=zH o;exact zU H
   ·obtain ⟨z,I,G,E⟩:=zg o
    obtain ⟨U,L,N,M⟩:=zg E;obtain ⟨rfl,rfl⟩:=zH M;exact ZV N (K _ _ _ _ G H)
def AgN (s:List UInt8) (ts:List Tk) (r:PR Unit):Prop:=match r with | .ok (_,us)=>Zd s (false,ts)=(false,us) | .error a=>Zd s (false,ts)=(true,ts)∧(zx ts).at0=a
theorem z8 {s:List UInt8} {ts:List Tk} {r:PR Unit} (h:Zj s ts=some r):AgN s ts r:=by
 unfold Zj at h
 simp only [Option.some.injEq] at h;subst h
 by_cases hc:zm (zx ts) s=true
 ·rw [if_pos hc]
  show Zd s (false,ts)=_
  simp only [Zd,yW,hc,if_true]
 ·rw [if_neg hc]
  exact ⟨by simp only [Zd,yW];rw [if_neg hc],rfl⟩
theorem Yb {ts:List Tk} {r:PR (List UInt8)} (h:yI ts=some r):Yp r (nameF (false,ts)):=by
 unfold yI at h
 simp only [Option.some.injEq] at h;subst h
 by_cases hc:(zx ts).k=1
 ·rw [if_pos hc]
  show nameF (false,ts)=_
  simp [nameF,hc]
 ·rw [if_neg hc]
  refine ⟨?_,?_⟩ <;> simp [nameF,hc]
theorem zbb (f:Nat) :
  (∀line ts r,line≤6→zh f (line+1) ts=some r→Xs ts→∀F,2*f+10≤F→∃q,yV F line (false,ts)=some q∧Yp r q) ∧
  (∀line e ts r,line≤5→Za f (line+1) e ts=some r→Xs ts→∀F,2*f+10≤F→∃q,yz F line e (false,ts)=some q∧Yp r q) ∧
  (∀ts r,zY f ts=some r→Xs ts→∀F,2*f+10≤F→∃q,ZP F (false,ts)=some q∧Yp r q) ∧
  (∀e ts r,zr f e ts=some r→Xs ts→∀F,2*f+10≤F→∃q,zX F e (false,ts)=some q∧Yp r q) ∧
  (∀ts r,zC f ts=some r→Xs ts→∀F,2*f+10≤F→∃q,ye F (false,ts)=some q∧Yp r q) ∧
  (∀pre ts r,ZS f pre ts=some r→Xs ts→∀F,2*f+10≤F→∃q,xe F pre (false,ts)=some q∧Yp r q) ∧
  (∀ts r,zy f ts=some r→Xs ts→∀F,2*f+10≤F→∃q,ZR F [41] false (Zd [40] (false,ts))=some q∧Yp r q):=by
 induction f with
 | zero=>refine ⟨?_,?_,?_,?_,?_,?_,?_⟩ <;> intros <;> simp_all [zh,Za,zY,zr,zC,ZS,zy]
 | succ f ih =>
  obtain ⟨i1,i2,Y,i4,i5,X,i7⟩:=ih;have up:∀F,2*(f+1)+10≤F→∃G,F=G+1∧2*f+10≤G∧2*f+11≤G:=fun F h=>⟨F-1,by omega,by omega,by omega⟩
  refine ⟨fun line ts r hl h hW F hF=>?_,fun line e ts r hl h hW F hF=>?_,fun ts r h hW F hF=>?_,fun e ts r h hW F hF=>?_,fun ts r h hW F hF=>?_,fun pre ts r h hW F hF=>?_,fun ts r h hW F hF=>?_⟩
  all_goals obtain ⟨G,rfl,L,ab⟩:=up F hF
  ·rw [zh] at h
   rw [yV]
   by_cases U:line=6
   ·rw [if_pos (by omega)] at h
    rw [if_pos U];exact Y _ _ h hW G L
   ·rw [if_neg (by omega)] at h
    rw [if_neg U];rcases zR h with ⟨a,o,rfl⟩ | ⟨y,J,o,H⟩
    ·obtain ⟨q,A,D⟩:=i1 (line+1) _ _ (by omega) o hW G L
     obtain ⟨y,J,rfl,E⟩:=Zl D;rw [A];exact ⟨_,Vl J G (by omega) line y,rfl,E⟩
    ·obtain ⟨q,A,D⟩:=i1 (line+1) _ _ (by omega) o hW G L
     obtain rfl:=Zz D;rw [A];exact i2 line y J r (by omega) H ((Yr f).1 _ _ _ _ o hW) G L
  ·rw [Za] at h
   rw [yz]
   by_cases hc:(zx ts).k=4∧levelOf (zx ts).s=line+1
   ·rw [if_pos hc] at h
    rw [if_pos ⟨rfl,hc⟩];rcases zR h with ⟨a,o,rfl⟩ | ⟨y,J,o,H⟩
    ·obtain ⟨q,A,D⟩:=i1 (line+1) _ _ (by omega) o hW.tail G L
     obtain ⟨y,J,rfl,E⟩:=Zl D;simp only [A,Option.bind_some];exact ⟨_,Vl J G (by omega) line _,rfl,E⟩
    ·obtain ⟨q,A,D⟩:=i1 (line+1) _ _ (by omega) o hW.tail G L
     obtain rfl:=Zz D;simp only [A,Option.bind_some];exact i2 line _ J r hl H ((Yr f).1 _ _ _ _ o hW.tail) G L
   ·rw [if_neg hc] at h
    rw [if_neg (fun h=>hc h.2)]
    simp only [Option.some.injEq] at h;subst h;exact ⟨_,rfl,rfl⟩
  ·rw [zY] at h
   rw [ZP];simp only [yW]
   by_cases hc:(zx ts).k=4∧((zx ts).s=[45]∨(zx ts).s=[33])
   ·rw [if_pos hc] at h
    rcases (VK hW.hd).1 hc with T | R
    ·rw [if_pos T]
     have hs:(zx ts).s=[45]:=by unfold zm at T;simp at T;exact T.2
     rcases zR h with ⟨a,o,rfl⟩ | ⟨y,J,o,H⟩
     ·obtain ⟨q,A,D⟩:=Y _ _ o hW.tail G L
      obtain ⟨y,J,rfl,E⟩:=Zl D;simp only [A,Option.bind_some];exact ⟨_,rfl,rfl,E⟩
     ·obtain ⟨q,A,D⟩:=Y _ _ o hW.tail G L
      obtain rfl:=Zz D;simp only [Option.some.injEq] at H;subst H;simp only [A,Option.bind_some];exact ⟨_,rfl,by rw [hs];rfl⟩
    ·have hs:(zx ts).s=[33]:=by unfold zm at R;simp at R;exact R.2
     rw [if_neg (by unfold zm;simp [hs]),if_pos R]
     rcases zR h with ⟨a,o,rfl⟩ | ⟨y,J,o,H⟩
     ·obtain ⟨q,A,D⟩:=Y _ _ o hW.tail G L
      obtain ⟨y,J,rfl,E⟩:=Zl D;simp only [A,Option.bind_some];exact ⟨_,rfl,rfl,E⟩
     ·obtain ⟨q,A,D⟩:=Y _ _ o hW.tail G L
      obtain rfl:=Zz D;simp only [Option.some.injEq] at H;subst H;simp only [A,Option.bind_some];exact ⟨_,rfl,by rw [hs];rfl⟩
   ·rw [if_neg hc] at h
    rw [if_neg (fun e=>hc ((VK hW.hd).2 (.inl e))),if_neg (fun e=>hc ((VK hW.hd).2 (.inr e)))]
    rcases zR h with ⟨a,o,rfl⟩ | ⟨y,J,o,H⟩
    ·obtain ⟨q,A,D⟩:=i5 _ _ o hW G L
     obtain ⟨y,J,rfl,E⟩:=Zl D;simp only [A,Option.bind_some];exact ⟨_,Ya J G (by omega) _,rfl,E⟩
    ·obtain ⟨q,A,D⟩:=i5 _ _ o hW G L
     obtain rfl:=Zz D;simp only [A,Option.bind_some];exact i4 _ J r H ((Yr f).2.2.2.2.1 _ _ _ o hW) G L
  ·rw [zr] at h
   rw [zX];simp only [yW]
   by_cases hc:zm (zx ts) [91]=true
   ·rw [if_pos hc] at h ⊢
    rcases zR h with ⟨a,o,rfl⟩ | ⟨y,J,o,H⟩
    ·obtain ⟨q,A,D⟩:=i1 0 _ _ (by omega) o hW.tail G L
     obtain ⟨y,J,rfl,E⟩:=Zl D;simp only [A,Option.bind_some,Yq];exact ⟨_,Ya J G (by omega) _,rfl,E⟩
    ·obtain ⟨q,A,D⟩:=i1 0 _ _ (by omega) o hW.tail G L
     obtain rfl:=Zz D;simp only [A,Option.bind_some];rcases zR H with ⟨a,M,rfl⟩ | ⟨z,vs,M,N⟩
     ·obtain ⟨I,E⟩:=z8 M
      rw [I];exact ⟨_,Ya J G (by omega) _,rfl,E⟩
     ·have I:=z8 M
      simp only [AgN] at I;rw [I];exact i4 _ _ r N (ZV M ((Yr f).1 _ _ _ _ o hW.tail)) G L
   ·rw [if_neg hc] at h ⊢
    by_cases hd:zm (zx ts) [46]=true
    ·rw [if_pos hd] at h ⊢
     rcases zR h with ⟨a,o,rfl⟩ | ⟨y,J,o,H⟩
     ·obtain ⟨z,J,A,E⟩:=Zl (Yb o)
      simp only [A];exact ⟨_,Ya J G (by omega) _,rfl,E⟩
     ·have A:=Zz (Yb o)
      simp only [A];exact i4 _ _ r H (yX o hW.tail) G L
    ·rw [if_neg hd] at h ⊢
     simp only [Option.some.injEq] at h;subst h;exact ⟨_,rfl,rfl⟩
  ·rw [zC] at h
   rw [ye];rw [if_neg (by simp)]
   simp only;have O:(zx ts).k=1→∀s,zm (zx ts) s=false:=fun h s=>by unfold zm;simp [h]
   by_cases c2:(zx ts).k=2
   ·rw [if_pos c2] at h ⊢
    simp only [Option.some.injEq] at h;subst h;exact ⟨_,rfl,rfl⟩
   rw [if_neg c2] at h ⊢
   by_cases c3:(zx ts).k=3
   ·rw [if_pos c3] at h ⊢
    simp only [Option.some.injEq] at h;subst h;exact ⟨_,rfl,rfl⟩
   rw [if_neg c3] at h ⊢
   by_cases c1:(zx ts).k=1
   ·rw [if_pos c1] at h
    rw [if_neg (by rw [O c1];simp),if_neg (by rw [O c1];simp),if_neg (by rw [O c1];simp),if_neg (by rw [O c1];simp),if_neg (by rw [O c1];simp),if_pos c1]
    by_cases hc:zm (zx ts.tail) [40]=true
    ·rw [if_pos hc] at h ⊢
     have I:Zd [40] (false,ts.tail)=(false,ts.tail.tail):=by simp only [Zd,yW,hc,if_true]
     rcases zR h with ⟨a,o,rfl⟩ | ⟨y,J,o,H⟩
     ·obtain ⟨q,A,D⟩:=i7 _ _ o hW.tail G L
      obtain ⟨y,J,rfl,E⟩:=Zl D;rw [I] at A;simp only [A,Option.bind_some];exact ⟨_,rfl,rfl,E⟩
     ·obtain ⟨q,A,D⟩:=i7 _ _ o hW.tail G L
      obtain rfl:=Zz D;rw [I] at A;simp only [Option.some.injEq] at H;subst H;simp only [A,Option.bind_some];exact ⟨_,rfl,rfl⟩
    ·rw [if_neg hc] at h ⊢
     simp only [Option.some.injEq] at h;subst h;exact ⟨_,rfl,rfl⟩
   rw [if_neg c1] at h
   by_cases c4:zm (zx ts) [116,114,117,101]=true
   ·rw [if_pos c4] at h ⊢
    simp only [Option.some.injEq] at h;subst h;exact ⟨_,rfl,rfl⟩
   rw [if_neg c4] at h ⊢
   by_cases c5:zm (zx ts) [102,97,108,115,101]=true
   ·rw [if_pos c5] at h ⊢
    simp only [Option.some.injEq] at h;subst h;exact ⟨_,rfl,rfl⟩
   rw [if_neg c5] at h ⊢
   by_cases c6:zm (zx ts) [110,101,119]=true
   ·rw [if_pos c6] at h ⊢
    rcases zR h with ⟨a,o,rfl⟩ | ⟨y,J,o,H⟩
    ·obtain ⟨z,J,A,E⟩:=Zl (Yb o)
     simp only [A,Yq,Vk J G (by omega),Option.bind_some]
     exact ⟨_,rfl,rfl,E⟩
    ·have A:=Zz (Yb o)
     simp only [A];rcases zR H with ⟨a,M,rfl⟩ | ⟨z,vs,M,N⟩
     ·obtain ⟨q,V,D⟩:=i7 _ _ M (yX o hW.tail) G L
      obtain ⟨y2,Q,rfl,E⟩:=Zl D;simp only [V,Option.bind_some];exact ⟨_,rfl,rfl,E⟩
     ·obtain ⟨q,V,D⟩:=i7 _ _ M (yX o hW.tail) G L
      obtain rfl:=Zz D;simp only [Option.some.injEq] at N;subst N;simp only [V,Option.bind_some];exact ⟨_,rfl,rfl⟩
   rw [if_neg c6] at h ⊢
   by_cases c7:zm (zx ts) [91]=true
   ·rw [if_pos c7] at h ⊢
    obtain ⟨K,rfl⟩:∃K,G=K+1:=⟨G-1,by omega⟩
    have hL:ZR (K+1) [93] true (false,ts.tail)=(xe K [] (false,ts.tail)).bind fun l=>some (l.1,Zd [93] l.2):=by rw [ZR,if_neg (by simp)]
    rw [hL];rcases zR h with ⟨a,o,rfl⟩ | ⟨y,J,o,H⟩
    ·obtain ⟨q,A,D⟩:=X _ _ _ o hW.tail K (by omega)
     obtain ⟨y2,Q,rfl,E⟩:=Zl D;simp only [A,Option.bind_some,Yq];exact ⟨_,rfl,rfl,E⟩
    ·obtain ⟨q,A,D⟩:=X _ _ _ o hW.tail K (by omega)
     obtain rfl:=Zz D;simp only [A,Option.bind_some];rcases zR H with ⟨a,M,rfl⟩ | ⟨z,vs,M,N⟩
     ·obtain ⟨I,E⟩:=z8 M
      rw [I];exact ⟨_,rfl,rfl,E⟩
     ·have I:=z8 M
      simp only [AgN] at I;rw [I];simp only [Option.some.injEq] at N;subst N;exact ⟨_,rfl,rfl⟩
   rw [if_neg c7] at h ⊢;rcases zR h with ⟨a,o,rfl⟩ | ⟨y,J,o,H⟩
   ·obtain ⟨I,E⟩:=z8 o
    have c8:¬ zm (zx ts) [40]=true:=fun e=>by simp only [Zd,yW,e,if_true] at I;simp at I
    rw [if_neg c8,if_neg c1];exact ⟨_,rfl,rfl,E⟩
   ·have I:=z8 o
    simp only [AgN] at I
    have c8:zm (zx ts) [40]=true:=by
     unfold Zj at o
     by_cases e:zm (zx ts) [40]=true
     ·exact e
     ·rw [if_neg e] at o;simp at o
    rw [if_pos c8];simp only [Zd,yW,c8,if_true,Prod.mk.injEq,true_and] at I;subst I;rcases zR H with ⟨a,M,rfl⟩ | ⟨z,vs,M,N⟩
    ·obtain ⟨q,A,D⟩:=i1 0 _ _ (by omega) M hW.tail G L
     obtain ⟨y2,Q,rfl,E⟩:=Zl D;simp only [A,Option.bind_some,Yq];exact ⟨_,rfl,rfl,E⟩
    ·obtain ⟨q,A,D⟩:=i1 0 _ _ (by omega) M hW.tail G L
     obtain rfl:=Zz D;simp only [A,Option.bind_some];rcases zR N with ⟨a,W,rfl⟩ | ⟨z2,aa,W,U⟩
     ·obtain ⟨I,E⟩:=z8 W
      rw [I];exact ⟨_,rfl,rfl,E⟩
     ·have I:=z8 W
      simp only [AgN] at I;rw [I];simp only [Option.some.injEq] at U;subst U;exact ⟨_,rfl,rfl⟩
  ·rw [ZS] at h
   rw [xe,if_neg (by simp)]
   rcases zR h with ⟨a,o,rfl⟩ | ⟨y,J,o,H⟩
   ·obtain ⟨q,A,D⟩:=i1 0 _ _ (by omega) o hW G L
    obtain ⟨y2,Q,rfl,E⟩:=Zl D;simp only [A,Option.bind_some,zas,Bool.false_eq_true,if_false];exact ⟨_,rfl,rfl,E⟩
   ·obtain ⟨q,A,D⟩:=i1 0 _ _ (by omega) o hW G L
    obtain rfl:=Zz D;simp only [A,Option.bind_some,yW]
    by_cases hc:zm (zx J) [44]=true
    ·rw [if_pos hc] at H ⊢
     exact X _ _ r H (zU ((Yr f).1 _ _ _ _ o hW)) G L
    ·rw [if_neg hc] at H ⊢
     simp only [Option.some.injEq] at H;subst H;exact ⟨_,rfl,rfl⟩
  ·rw [zy] at h
   rcases zR h with ⟨a,o,rfl⟩ | ⟨y,J,o,H⟩
   ·obtain ⟨I,E⟩:=z8 o
    rw [I,Vk ts (G+1) (by omega)]
    exact ⟨_,rfl,rfl,E⟩
   ·have I:=z8 o
    simp only [AgN] at I;have Z:=ZV o hW;rw [I,ZR];simp only [yW,true_and]
    by_cases hc:zm (zx J) [41]=true
    ·rw [if_pos hc] at H ⊢
     simp only [Option.some.injEq] at H;subst H;exact ⟨_,rfl,rfl⟩
    ·rw [if_neg hc] at H ⊢
     rcases zR H with ⟨a,M,rfl⟩ | ⟨z,vs,M,N⟩
     ·obtain ⟨q,A,D⟩:=X _ _ _ M Z G L
      obtain ⟨y2,Q,rfl,E⟩:=Zl D;simp only [A,Option.bind_some,Yq];exact ⟨_,rfl,rfl,E⟩
     ·obtain ⟨q,A,D⟩:=X _ _ _ M Z G L
      obtain rfl:=Zz D;simp only [A,Option.bind_some];rcases zR N with ⟨a,W,rfl⟩ | ⟨z2,aa,W,U⟩
      ·obtain ⟨I,E⟩:=z8 W
       rw [I];exact ⟨_,rfl,rfl,E⟩
      ·have I:=z8 W
       simp only [AgN] at I;rw [I];simp only [Option.some.injEq] at U;subst U;exact ⟨_,rfl,rfl⟩
theorem Ys (s:List UInt8) (σ:RS):(Zd s σ).2.length≤σ.2.length:=by
 unfold Zd
 split
 ·simp
 ·exact Nat.le_refl _
theorem xW (σ:RS):(nameF σ).2.2.length≤σ.2.length:=by
 unfold nameF
 split
 ·simp
 ·exact Nat.le_refl _
theorem ZA (ts:List Tk):ts.tail.length≤ts.length:=by simp
theorem QF (f:Nat) :
  (∀line σ q,yV f line σ=some q→q.2.2.length≤σ.2.length)∧(∀line e σ q,yz f line e σ=some q→q.2.2.length≤σ.2.length) ∧
  (∀σ q,ZP f σ=some q→q.2.2.length≤σ.2.length)∧(∀e σ q,zX f e σ=some q→q.2.2.length≤σ.2.length)∧(∀σ q,ye f σ=some q→q.2.2.length≤σ.2.length) ∧
  (∀s b σ q,ZR f s b σ=some q→q.2.2.length≤σ.2.length)∧(∀pre σ q,xe f pre σ=some q→q.2.2.length≤σ.2.length):=by
 induction f with
 | zero=>refine ⟨?_,?_,?_,?_,?_,?_,?_⟩ <;> intros <;> rename_i h <;> simp [yV,yz,ZP,zX,ye,ZR,xe] at h
 | succ f ih =>
  obtain ⟨i1,G,D,E,I,A,H⟩:=ih;refine ⟨fun line σ q h=>?_,fun line e σ q h=>?_,fun σ q h=>?_,fun e σ q h=>?_,fun σ q h=>?_,fun s b σ q h=>?_,fun pre σ q h=>?_⟩
  ·rw [yV] at h
   split at h
   ·exact D _ _ h
   ·obtain ⟨y,z,o⟩:=Option.bind_eq_some_iff.1 h
    exact Nat.le_trans (G _ _ _ _ o) (i1 _ _ _ z)
  ·rw [yz] at h
   split at h
   ·obtain ⟨y,z,o⟩:=Option.bind_eq_some_iff.1 h
    exact Nat.le_trans (G _ _ _ _ o) (Nat.le_trans (i1 _ _ _ z) (ZA _))
   ·obtain rfl:=Option.some.inj h;exact Nat.le_refl _
  ·rw [ZP] at h
   split at h
   ·obtain ⟨y,z,o⟩:=Option.bind_eq_some_iff.1 h
    obtain rfl:=Option.some.inj o;have a:=D _ _ z;exact Nat.le_trans a (ZA _)
   split at h
   ·obtain ⟨y,z,o⟩:=Option.bind_eq_some_iff.1 h
    obtain rfl:=Option.some.inj o;have a:=D _ _ z;exact Nat.le_trans a (ZA _)
   ·obtain ⟨y,z,o⟩:=Option.bind_eq_some_iff.1 h
    exact Nat.le_trans (E _ _ _ o) (I _ _ z)
  ·rw [zX] at h
   split at h
   ·obtain ⟨y,z,o⟩:=Option.bind_eq_some_iff.1 h
    exact Nat.le_trans (E _ _ _ o) (Nat.le_trans (Ys _ _) (Nat.le_trans (i1 _ _ _ z) (ZA _)))
   split at h
   ·exact Nat.le_trans (E _ _ _ h) (Nat.le_trans (xW _) (ZA _))
   ·obtain rfl:=Option.some.inj h;exact Nat.le_refl _
  ·rw [ye] at h
   by_cases c:σ.1=true
   ·rw [if_pos c] at h
    obtain rfl:=Option.some.inj h;exact Nat.le_refl _
   rw [if_neg c] at h;clear c
   by_cases c:(zx σ.2).k=2
   ·rw [if_pos c] at h
    obtain rfl:=Option.some.inj h;exact ZA _
   rw [if_neg c] at h;clear c
   by_cases c:(zx σ.2).k=3
   ·rw [if_pos c] at h
    obtain rfl:=Option.some.inj h;exact ZA _
   rw [if_neg c] at h;clear c
   by_cases c:zm (zx σ.2) [116,114,117,101]=true
   ·rw [if_pos c] at h
    obtain rfl:=Option.some.inj h;exact ZA _
   rw [if_neg c] at h;clear c
   by_cases c:zm (zx σ.2) [102,97,108,115,101]=true
   ·rw [if_pos c] at h
    obtain rfl:=Option.some.inj h;exact ZA _
   rw [if_neg c] at h;clear c
   by_cases c:zm (zx σ.2) [110,101,119]=true
   ·rw [if_pos c] at h
    obtain ⟨y,z,o⟩:=Option.bind_eq_some_iff.1 h;obtain rfl:=Option.some.inj o;exact Nat.le_trans (A _ _ _ _ z) (Nat.le_trans (Ys _ _) (Nat.le_trans (xW _) (ZA _)))
   rw [if_neg c] at h;clear c
   by_cases c:zm (zx σ.2) [91]=true
   ·rw [if_pos c] at h
    obtain ⟨y,z,o⟩:=Option.bind_eq_some_iff.1 h;obtain rfl:=Option.some.inj o;exact Nat.le_trans (A _ _ _ _ z) (ZA _)
   rw [if_neg c] at h;clear c
   by_cases c:zm (zx σ.2) [40]=true
   ·rw [if_pos c] at h
    obtain ⟨y,z,o⟩:=Option.bind_eq_some_iff.1 h;obtain rfl:=Option.some.inj o;have a:=i1 _ _ _ z;exact Nat.le_trans (Ys _ _) (Nat.le_trans a (ZA _))
   rw [if_neg c] at h;clear c
   by_cases c:(zx σ.2).k=1
   ·rw [if_pos c] at h
    by_cases d:zm (zx σ.2.tail) [40]=true
    ·rw [if_pos d] at h
     obtain ⟨y,z,o⟩:=Option.bind_eq_some_iff.1 h;obtain rfl:=Option.some.inj o;exact Nat.le_trans (A _ _ _ _ z) (Nat.le_trans (ZA _) (ZA _))
    ·rw [if_neg d] at h
     obtain rfl:=Option.some.inj h;exact ZA _
   rw [if_neg c] at h;clear c;obtain rfl:=Option.some.inj h;exact Nat.le_refl _
  ·rw [ZR] at h
   split at h
   ·obtain rfl:=Option.some.inj h;exact ZA _
   ·obtain ⟨y,z,o⟩:=Option.bind_eq_some_iff.1 h
    obtain rfl:=Option.some.inj o;exact Nat.le_trans (Ys _ _) (H _ _ _ z)
  ·rw [xe] at h
   split at h
   ·obtain rfl:=Option.some.inj h;exact Nat.le_refl _
   ·obtain ⟨y,z,o⟩:=Option.bind_eq_some_iff.1 h
    split at o
    ·exact Nat.le_trans (H _ _ _ o) (Nat.le_trans (ZA _) (i1 _ _ _ z))
    ·obtain rfl:=Option.some.inj o
     exact i1 _ _ _ z
end Go.Proofs.YtmbofhpmockmbaaGreatDoor
