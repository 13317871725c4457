import Derived.Test.YtpejpbbdgblbeaaGreatDoorMC29
import Derived.Test.YtpejpbbdgblbeaaGreatDoorMC16
import Derived.Test.YtpejpbbdgblbeaaGreatDoorMC8
namespace Go.Proofs.YtpejpbbdgblbeaaGreatDoor
open Go.RowKit Go.Shelf
set_option maxHeartbeats 16000000
set_option maxRecDepth 100000
abbrev RS:=Bool × List Tk
def zO (s:List UInt8) (σ:RS):Bool:=!σ.1&&zn (zx σ.2) s
def y9 (s:List UInt8) (σ:RS):RS:=if zO s σ=true then (false,σ.2.tail) else σ
def mustF (s:List UInt8) (σ:RS):RS:=if zO s σ=true then (false,σ.2.tail) else (true,σ.2)
def nameF (σ:RS):List UInt8 × RS:=if σ.1=false∧(zx σ.2).k=1 then ((zx σ.2).s,(false,σ.2.tail)) else ([],(true,σ.2))
mutual
def Z7:Nat→Nat→RS→Option (Ex × RS)
 | 0,_,_=>none
 | f+1,line,σ=>if line=6 then yN f σ else (Z7 f (line+1) σ).bind fun q=>YN f line q.1 q.2
def YN:Nat→Nat→Ex→RS→Option (Ex × RS)
 | 0,_,_,_=>none
 | f+1,line,e,σ=>if σ.1=false∧(zx σ.2).k=4∧levelOf (zx σ.2).s=line+1 then (Z7 f (line+1) (false,σ.2.tail)).bind fun q=>YN f line (.mk 7 (zx σ.2).s 0 [e,q.1] e.line) q.2 else some (e,σ)
def yN:Nat→RS→Option (Ex × RS)
 | 0,_=>none
 | f+1,σ =>
  if zO [45] σ=true then (yN f (false,σ.2.tail)).bind fun q=>some (.mk 6 [45] 0 [q.1] (zx σ.2).line,q.2)
  else if zO [33] σ=true then (yN f (false,σ.2.tail)).bind fun q=>some (.mk 6 [33] 0 [q.1] (zx σ.2).line,q.2)
  else (Yk f σ).bind fun q=>ZC f q.1 q.2
def ZC:Nat→Ex→RS→Option (Ex × RS)
 | 0,_,_=>none
 | f+1,e,σ =>
  if zO [91] σ=true then (Z7 f 0 (false,σ.2.tail)).bind fun q=>ZC f (.mk 8 [] 0 [e,q.1] e.line) (mustF [93] q.2)
  else if zO [46] σ=true then ZC f (.mk 9 (nameF (false,σ.2.tail)).1 0 [e] e.line) (nameF (false,σ.2.tail)).2
  else some (e,σ)
def Yk:Nat→RS→Option (Ex × RS)
 | 0,_=>none
 | f+1,σ =>
  if σ.1=true then some (.mk 0 [] 0 [] (zx σ.2).line,σ)
  else if (zx σ.2).k=2 then some (.mk 1 [] (zx σ.2).n [] (zx σ.2).line,(false,σ.2.tail))
  else if (zx σ.2).k=3 then some (.mk 3 (zx σ.2).s 0 [] (zx σ.2).line,(false,σ.2.tail))
  else if zn (zx σ.2) [116,114,117,101]=true then some (.mk 2 [] 1 [] (zx σ.2).line,(false,σ.2.tail))
  else if zn (zx σ.2) [102,97,108,115,101]=true then some (.mk 2 [] 0 [] (zx σ.2).line,(false,σ.2.tail))
  else if zn (zx σ.2) [110,101,119]=true then (Yf f [41] false (mustF [40] (nameF (false,σ.2.tail)).2)).bind fun l=>some (.mk 11 (nameF (false,σ.2.tail)).1 0 l.1 (zx σ.2).line,l.2)
  else if zn (zx σ.2) [91]=true then (Yf f [93] true (false,σ.2.tail)).bind fun l=>some (.mk 10 [] 0 l.1 (zx σ.2).line,l.2)
  else if zn (zx σ.2) [40]=true then (Z7 f 0 (false,σ.2.tail)).bind fun q=>some (q.1,mustF [41] q.2)
  else if (zx σ.2).k=1 then
   if zn (zx σ.2.tail) [40]=true then (Yf f [41] false (false,σ.2.tail.tail)).bind fun l=>some (.mk 5 (zx σ.2).s 0 l.1 (zx σ.2).line,l.2)
   else some (.mk 4 (zx σ.2).s 0 [] (zx σ.2).line,(false,σ.2.tail))
  else some (.mk 0 [] 0 [] (zx σ.2).line,(true,σ.2))
def Yf:Nat→List UInt8→Bool→RS→Option (List Ex × RS)
 | 0,_,_,_=>none
 | f+1,end0,some0,σ=>if some0=false∧zO end0 σ=true then some ([],(false,σ.2.tail)) else (vH f [] σ).bind fun l=>some (l.1,mustF end0 l.2)
def vH:Nat→List Ex→RS→Option (List Ex × RS)
 | 0,_,_=>none
 | f+1,pre,σ=>if σ.1=true then some (pre,σ) else (Z7 f 0 σ).bind fun q=>if zO [44] q.2=true then vH f (pre++[q.1]) (false,q.2.2.tail) else some (pre++[q.1],q.2)
end
def Xt {α:Type} (r:PR α) (q:α × RS):Prop :=
 match r with
 | .ok (y,us)=>q=(y,(false,us))
 | .error a=>q.2.1=true∧(zx q.2.2).at0=a
def WdT (t:Tk):Prop:=t.k=5→t.s≠[45]∧t.s≠[33]
def xt (ts:List Tk):Prop:=∀t∈ts,WdT t
theorem xt.tail {ts:List Tk} (h:xt ts):xt ts.tail:=fun t ht=>h t (List.mem_of_mem_tail ht)
theorem xt.hd {ts:List Tk} (h:xt ts):WdT (zx ts):=by
 cases ts with
 | nil=>intro hk;simp [zx] at hk
 | cons t us=>exact h t (List.mem_cons_self ..)
theorem x9 (s:List UInt8) (ts:List Tk):zO s (true,ts)=false:=by simp [zO]
theorem Z4 (s:List UInt8) (ts:List Tk):zO s (false,ts)=zn (zx ts) s:=by simp [zO]
theorem Zx (s:List UInt8) (ts:List Tk):mustF s (true,ts)=(true,ts):=by simp [mustF,zO]
theorem Q0 (ts:List Tk):nameF (true,ts)=([],(true,ts)):=by simp [nameF]
theorem ziy (ts:List Tk):∀(line F:Nat),line≤6→9≤F+line→∃e,Z7 F line (true,ts)=some (e,(true,ts)):=by
 have hM:∀F line e,1≤F→YN F line e (true,ts)=some (e,(true,ts)):=fun F line e h=>by
  obtain ⟨G,rfl⟩:∃G,F=G+1:=⟨F-1,by omega⟩
  rw [YN,if_neg (by simp)]
 have hB:∀F e,1≤F→ZC F e (true,ts)=some (e,(true,ts)):=fun F e h=>by
  obtain ⟨G,rfl⟩:∃G,F=G+1:=⟨F-1,by omega⟩
  rw [ZC,if_neg (by simp [zO]),if_neg (by simp [zO])]
 have hU:∀F,2≤F→∃e,yN F (true,ts)=some (e,(true,ts)):=fun F h=>by
  obtain ⟨G,rfl⟩:∃G,F=G+1+1:=⟨F-2,by omega⟩
  rw [yN,if_neg (by simp [zO]),if_neg (by simp [zO]),Yk,if_pos rfl]
  exact ⟨_,hB _ _ (by omega)⟩
 have key:∀d line F,line+d=6→3+d≤F→∃e,Z7 F line (true,ts)=some (e,(true,ts)):=fun d=>by
  induction d with
  | zero =>
   intro line F h1 h2;obtain ⟨G,rfl⟩:∃G,F=G+1:=⟨F-1,by omega⟩
   rw [Z7,if_pos (by omega)]
   exact hU G (by omega)
  | succ d ih =>
   intro line F h1 h2;obtain ⟨G,rfl⟩:∃G,F=G+1:=⟨F-1,by omega⟩
   obtain ⟨e,he⟩:=ih (line+1) G (by omega) (by omega)
   rw [Z7,if_neg (by omega),he]
   exact ⟨e,hM _ _ _ (by omega)⟩
 intro line F h1 h2;exact key (6-line) line F (by omega) (by omega)
theorem zfW (ts:List Tk) (F:Nat) (h:1≤F) (pre:List Ex):vH F pre (true,ts)=some (pre,(true,ts)):=by
 obtain ⟨G,rfl⟩:∃G,F=G+1:=⟨F-1,by omega⟩
 rw [vH,if_pos rfl]
theorem Q1 (ts:List Tk) (F:Nat) (h:2≤F) (s:List UInt8) (b:Bool):Yf F s b (true,ts)=some ([],(true,ts)):=by
 obtain ⟨G,rfl⟩:∃G,F=G+1:=⟨F-1,by omega⟩
 rw [Yf,if_neg (by simp [zO]),zfW ts G (by omega) []]
 rfl
theorem Q2 (ts:List Tk) (F:Nat) (h:1≤F) (line:Nat) (e:Ex):YN F line e (true,ts)=some (e,(true,ts)):=by
 obtain ⟨G,rfl⟩:∃G,F=G+1:=⟨F-1,by omega⟩
 rw [YN,if_neg (by simp)]
theorem XG (ts:List Tk) (F:Nat) (h:1≤F) (e:Ex):ZC F e (true,ts)=some (e,(true,ts)):=by
 obtain ⟨G,rfl⟩:∃G,F=G+1:=⟨F-1,by omega⟩
 rw [ZC,if_neg (by simp [zO]),if_neg (by simp [zO])]
theorem Zb {α β:Type} {x:Option (PR α)} {k:α→List Tk→Option (PR β)} {r:PR β} (h:zq x k=some r):(∃a,x=some (.error a)∧r=.error a)∨∃y us,x=some (.ok (y,us))∧k y us=some r:=by
 unfold zq at h
 cases x with
 | none=>cases h
 | some x =>
  cases x with
  | error a=>exact .inl ⟨a,rfl,(Option.some.inj h).symm⟩
  | ok p=>exact .inr ⟨p.1,p.2,rfl,h⟩
theorem yo {α:Type} {y:α} {us:List Tk} {q:α × RS} (h:Xt (.ok (y,us)) q):q=(y,(false,us)):=h
theorem ZM {α:Type} {a:Nat} {q:α × RS} (h:Xt (.error a:PR α) q):∃y us,q=(y,(true,us))∧(zx us).at0=a:=by
 obtain ⟨y,b,us⟩:=q;obtain ⟨h1,h2⟩:=h;simp only at h1 h2;subst h1;exact ⟨y,us,rfl,h2⟩
theorem zaG {t:Tk} (h:WdT t):(t.k=4∧(t.s=[45]∨t.s=[33]))↔(zn t [45]=true∨zn t [33]=true):=by
 unfold zn
 constructor
 ·rintro ⟨h4,h | h⟩ <;> simp [h4,h]
 ·intro hh
  simp only [Bool.and_eq_true,Bool.or_eq_true,beq_iff_eq] at hh;rcases hh with ⟨h4 | h5,h⟩ | ⟨h4 | h5,h⟩
  ·exact ⟨h4,.inl h⟩
  ·exact absurd h ((‹WdT t› h5).1)
  ·exact ⟨h4,.inr h⟩
  ·exact absurd h ((‹WdT t› h5).2)
theorem Zh {s:List UInt8} {ts us:List Tk} {y:Unit} (h:Zf s ts=some (.ok (y,us))) {P:Tk→Prop} (hE:∀t∈ts,P t):∀t∈us,P t:=by
 unfold Zf at h
 split at h
 ·simp only [Option.some.injEq,Except.ok.injEq,Prod.mk.injEq] at h
  rw [←h.2];exact fun t ht=>hE t (List.mem_of_mem_tail ht)
 ·cases h
theorem yC {s:List UInt8} {ts us:List Tk} (h:Yg ts=some (.ok (s,us))) {P:Tk→Prop} (hE:∀t∈ts,P t):∀t∈us,P t:=by
 unfold Yg at h
 split at h
 ·simp only [Option.some.injEq,Except.ok.injEq,Prod.mk.injEq] at h
  rw [←h.2];exact fun t ht=>hE t (List.mem_of_mem_tail ht)
 ·cases h
theorem zy {ts:List Tk} {P:Tk→Prop} (hE:∀t∈ts,P t):∀t∈ts.tail,P t:=fun t ht=>hE t (List.mem_of_mem_tail ht)
theorem xu {P:Tk→Prop} (f:Nat) :
  (∀least ts x us,zk f least ts=some (.ok (x,us))→(∀t∈ts,P t)→∀t∈us,P t)∧(∀least e ts x us,Z5 f least e ts=some (.ok (x,us))→(∀t∈ts,P t)→∀t∈us,P t) ∧
  (∀ts x us,ZP f ts=some (.ok (x,us))→(∀t∈ts,P t)→∀t∈us,P t)∧(∀e ts x us,zN f e ts=some (.ok (x,us))→(∀t∈ts,P t)→∀t∈us,P t)∧(∀ts x us,Za f ts=some (.ok (x,us))→(∀t∈ts,P t)→∀t∈us,P t) ∧
  (∀pre ts x us,Yh f pre ts=some (.ok (x,us))→(∀t∈ts,P t)→∀t∈us,P t)∧(∀ts x us,zR f ts=some (.ok (x,us))→(∀t∈ts,P t)→∀t∈us,P t):=by
 induction f with
 | zero=>refine ⟨?_,?_,?_,?_,?_,?_,?_⟩ <;> intros <;> simp_all [zk,Z5,ZP,zN,Za,Yh,zR]
 | succ f ih =>
  obtain ⟨i1,i2,i3,i4,i5,i6,i7⟩:=ih;refine ⟨fun least ts x us h hE=>?_,fun least e ts x us h hE=>?_,fun ts x us h hE=>?_,fun e ts x us h hE=>?_,fun ts x us h hE=>?_,fun pre ts x us h hE=>?_,fun ts x us h hE=>?_⟩
  ·rw [zk] at h
   split at h
   ·exact i3 _ _ _ h hE
   ·obtain ⟨y,vs,h1,h2⟩:=zb h
    exact i2 _ _ _ _ _ h2 (i1 _ _ _ _ h1 hE)
  ·rw [Z5] at h
   split at h
   ·obtain ⟨y,vs,h1,h2⟩:=zb h
    exact i2 _ _ _ _ _ h2 (i1 _ _ _ _ h1 (zy hE))
   ·obtain ⟨rfl,rfl⟩:=zt h;exact hE
  ·rw [ZP] at h
   split at h
   ·obtain ⟨y,vs,h1,h2⟩:=zb h
    obtain ⟨rfl,rfl⟩:=zt h2;exact i3 _ _ _ h1 (zy hE)
   ·obtain ⟨y,vs,h1,h2⟩:=zb h
    exact i4 _ _ _ _ h2 (i5 _ _ _ h1 hE)
  ·rw [zN] at h
   split at h
   ·obtain ⟨y,vs,h1,h2⟩:=zb h
    obtain ⟨z,xs,h3,h4⟩:=zb h2;exact i4 _ _ _ _ h4 (Zh h3 (i1 _ _ _ _ h1 (zy hE)))
   split at h
   ·obtain ⟨y,vs,h1,h2⟩:=zb h
    exact i4 _ _ _ _ h2 (yC h1 (zy hE))
   ·obtain ⟨rfl,rfl⟩:=zt h;exact hE
  ·rw [Za] at h
   split at h
   ·obtain ⟨rfl,rfl⟩:=zt h;exact zy hE
   split at h
   ·obtain ⟨rfl,rfl⟩:=zt h;exact zy hE
   split at h
   ·split at h
    ·obtain ⟨y,vs,h1,h2⟩:=zb h
     obtain ⟨rfl,rfl⟩:=zt h2;exact i7 _ _ _ h1 (zy hE)
    ·obtain ⟨rfl,rfl⟩:=zt h;exact zy hE
   split at h
   ·obtain ⟨rfl,rfl⟩:=zt h;exact zy hE
   split at h
   ·obtain ⟨rfl,rfl⟩:=zt h;exact zy hE
   split at h
   ·obtain ⟨y,vs,h1,h2⟩:=zb h
    obtain ⟨z,xs,h3,h4⟩:=zb h2;obtain ⟨rfl,rfl⟩:=zt h4;exact i7 _ _ _ h3 (yC h1 (zy hE))
   split at h
   ·obtain ⟨y,vs,h1,h2⟩:=zb h
    obtain ⟨z,xs,h3,h4⟩:=zb h2;obtain ⟨rfl,rfl⟩:=zt h4;exact Zh h3 (i6 _ _ _ _ h1 (zy hE))
   ·obtain ⟨y,vs,h1,h2⟩:=zb h
    obtain ⟨z,xs,h3,h4⟩:=zb h2;obtain ⟨z',xs',h5,h6⟩:=zb h4;obtain ⟨rfl,rfl⟩:=zt h6;exact Zh h5 (i1 _ _ _ _ h3 (Zh h1 hE))
  ·rw [Yh] at h
   obtain ⟨y,vs,h1,h2⟩:=zb h;have hV:=i1 _ _ _ _ h1 hE
   split at h2
   ·exact i6 _ _ _ _ h2 (zy hV)
   ·obtain ⟨rfl,rfl⟩:=zt h2;exact hV
  ·rw [zR] at h
   obtain ⟨y,vs,h1,h2⟩:=zb h;have hV:=Zh h1 hE
   split at h2
   ·obtain ⟨rfl,rfl⟩:=zt h2;exact zy hV
   ·obtain ⟨z,xs,h3,h4⟩:=zb h2
    obtain ⟨z',xs',h5,h6⟩:=zb h4;obtain ⟨rfl,rfl⟩:=zt h6;exact Zh h5 (i6 _ _ _ _ h3 hV)
def AgN (s:List UInt8) (ts:List Tk) (r:PR Unit):Prop:=match r with | .ok (_,us)=>mustF s (false,ts)=(false,us) | .error a=>mustF s (false,ts)=(true,ts)∧(zx ts).at0=a
theorem Zg {s:List UInt8} {ts:List Tk} {r:PR Unit} (h:Zf s ts=some r):AgN s ts r:=by
 unfold Zf at h
 simp only [Option.some.injEq] at h;subst h
 by_cases hc:zn (zx ts) s=true
 ·rw [if_pos hc]
  show mustF s (false,ts)=_
  simp only [mustF,Z4,hc,if_true]
 ·rw [if_neg hc]
  exact ⟨by simp only [mustF,Z4];rw [if_neg hc],rfl⟩
theorem yL {ts:List Tk} {r:PR (List UInt8)} (h:Yg ts=some r):Xt r (nameF (false,ts)):=by
 unfold Yg at h
 simp only [Option.some.injEq] at h;subst h
 by_cases hc:(zx ts).k=1
 ·rw [if_pos hc]
  show nameF (false,ts)=_
  simp [nameF,hc]
 ·rw [if_neg hc]
  refine ⟨?_,?_⟩ <;> simp [nameF,hc]
theorem ziz (f:Nat) :
  (∀line ts r,line≤6→zk f (line+1) ts=some r→xt ts→∀F,2*f+10≤F→∃q,Z7 F line (false,ts)=some q∧Xt r q) ∧
  (∀line e ts r,line≤5→Z5 f (line+1) e ts=some r→xt ts→∀F,2*f+10≤F→∃q,YN F line e (false,ts)=some q∧Xt r q) ∧
  (∀ts r,ZP f ts=some r→xt ts→∀F,2*f+10≤F→∃q,yN F (false,ts)=some q∧Xt r q) ∧
  (∀e ts r,zN f e ts=some r→xt ts→∀F,2*f+10≤F→∃q,ZC F e (false,ts)=some q∧Xt r q) ∧
  (∀ts r,Za f ts=some r→xt ts→∀F,2*f+10≤F→∃q,Yk F (false,ts)=some q∧Xt r q) ∧
  (∀pre ts r,Yh f pre ts=some r→xt ts→∀F,2*f+10≤F→∃q,vH F pre (false,ts)=some q∧Xt r q) ∧
  (∀ts r,zR f ts=some r→xt ts→∀F,2*f+10≤F→∃q,Yf F [41] false (mustF [40] (false,ts))=some q∧Xt r q):=by
 induction f with
 | zero=>refine ⟨?_,?_,?_,?_,?_,?_,?_⟩ <;> intros <;> simp_all [zk,Z5,ZP,zN,Za,Yh,zR]
 | succ f ih =>
  obtain ⟨i1,i2,i3,i4,i5,i6,i7⟩:=ih;have up:∀F,2*(f+1)+10≤F→∃G,F=G+1∧2*f+10≤G∧2*f+11≤G:=fun F h=>⟨F-1,by omega,by omega,by omega⟩
  refine ⟨fun line ts r hl h hW F hF=>?_,fun line e ts r hl h hW F hF=>?_,fun ts r h hW F hF=>?_,fun e ts r h hW F hF=>?_,fun ts r h hW F hF=>?_,fun pre ts r h hW F hF=>?_,fun ts r h hW F hF=>?_⟩
  all_goals obtain ⟨G,rfl,hG,hG1⟩:=up F hF
  ·rw [zk] at h
   rw [Z7]
   by_cases h6:line=6
   ·rw [if_pos (by omega)] at h
    rw [if_pos h6];exact i3 _ _ h hW G hG
   ·rw [if_neg (by omega)] at h
    rw [if_neg h6];rcases Zb h with ⟨a,h1,rfl⟩ | ⟨y,us,h1,h2⟩
    ·obtain ⟨q,hq,hA⟩:=i1 (line+1) _ _ (by omega) h1 hW G hG
     obtain ⟨y,us,rfl,ha⟩:=ZM hA;rw [hq];exact ⟨_,Q2 us G (by omega) line y,rfl,ha⟩
    ·obtain ⟨q,hq,hA⟩:=i1 (line+1) _ _ (by omega) h1 hW G hG
     obtain rfl:=yo hA;rw [hq];exact i2 line y us r (by omega) h2 ((xu f).1 _ _ _ _ h1 hW) G hG
  ·rw [Z5] at h
   rw [YN]
   by_cases hc:(zx ts).k=4∧levelOf (zx ts).s=line+1
   ·rw [if_pos hc] at h
    rw [if_pos ⟨rfl,hc⟩];rcases Zb h with ⟨a,h1,rfl⟩ | ⟨y,us,h1,h2⟩
    ·obtain ⟨q,hq,hA⟩:=i1 (line+1) _ _ (by omega) h1 hW.tail G hG
     obtain ⟨y,us,rfl,ha⟩:=ZM hA;simp only [hq,Option.bind_some];exact ⟨_,Q2 us G (by omega) line _,rfl,ha⟩
    ·obtain ⟨q,hq,hA⟩:=i1 (line+1) _ _ (by omega) h1 hW.tail G hG
     obtain rfl:=yo hA;simp only [hq,Option.bind_some];exact i2 line _ us r hl h2 ((xu f).1 _ _ _ _ h1 hW.tail) G hG
   ·rw [if_neg hc] at h
    rw [if_neg (fun h=>hc h.2)]
    simp only [Option.some.injEq] at h;subst h;exact ⟨_,rfl,rfl⟩
  ·rw [ZP] at h
   rw [yN];simp only [Z4]
   by_cases hc:(zx ts).k=4∧((zx ts).s=[45]∨(zx ts).s=[33])
   ·rw [if_pos hc] at h
    rcases (zaG hW.hd).1 hc with h45 | h33
    ·rw [if_pos h45]
     have hs:(zx ts).s=[45]:=by unfold zn at h45;simp at h45;exact h45.2
     rcases Zb h with ⟨a,h1,rfl⟩ | ⟨y,us,h1,h2⟩
     ·obtain ⟨q,hq,hA⟩:=i3 _ _ h1 hW.tail G hG
      obtain ⟨y,us,rfl,ha⟩:=ZM hA;simp only [hq,Option.bind_some];exact ⟨_,rfl,rfl,ha⟩
     ·obtain ⟨q,hq,hA⟩:=i3 _ _ h1 hW.tail G hG
      obtain rfl:=yo hA;simp only [Option.some.injEq] at h2;subst h2;simp only [hq,Option.bind_some];exact ⟨_,rfl,by rw [hs];rfl⟩
    ·have hs:(zx ts).s=[33]:=by unfold zn at h33;simp at h33;exact h33.2
     rw [if_neg (by unfold zn;simp [hs]),if_pos h33]
     rcases Zb h with ⟨a,h1,rfl⟩ | ⟨y,us,h1,h2⟩
     ·obtain ⟨q,hq,hA⟩:=i3 _ _ h1 hW.tail G hG
      obtain ⟨y,us,rfl,ha⟩:=ZM hA;simp only [hq,Option.bind_some];exact ⟨_,rfl,rfl,ha⟩
     ·obtain ⟨q,hq,hA⟩:=i3 _ _ h1 hW.tail G hG
      obtain rfl:=yo hA;simp only [Option.some.injEq] at h2;subst h2;simp only [hq,Option.bind_some];exact ⟨_,rfl,by rw [hs];rfl⟩
   ·rw [if_neg hc] at h
    rw [if_neg (fun e=>hc ((zaG hW.hd).2 (.inl e))),if_neg (fun e=>hc ((zaG hW.hd).2 (.inr e)))]
    rcases Zb h with ⟨a,h1,rfl⟩ | ⟨y,us,h1,h2⟩
    ·obtain ⟨q,hq,hA⟩:=i5 _ _ h1 hW G hG
     obtain ⟨y,us,rfl,ha⟩:=ZM hA;simp only [hq,Option.bind_some];exact ⟨_,XG us G (by omega) _,rfl,ha⟩
    ·obtain ⟨q,hq,hA⟩:=i5 _ _ h1 hW G hG
     obtain rfl:=yo hA;simp only [hq,Option.bind_some];exact i4 _ us r h2 ((xu f).2.2.2.2.1 _ _ _ h1 hW) G hG
  ·rw [zN] at h
   rw [ZC];simp only [Z4]
   by_cases hc:zn (zx ts) [91]=true
   ·rw [if_pos hc] at h ⊢
    rcases Zb h with ⟨a,h1,rfl⟩ | ⟨y,us,h1,h2⟩
    ·obtain ⟨q,hq,hA⟩:=i1 0 _ _ (by omega) h1 hW.tail G hG
     obtain ⟨y,us,rfl,ha⟩:=ZM hA;simp only [hq,Option.bind_some,Zx];exact ⟨_,XG us G (by omega) _,rfl,ha⟩
    ·obtain ⟨q,hq,hA⟩:=i1 0 _ _ (by omega) h1 hW.tail G hG
     obtain rfl:=yo hA;simp only [hq,Option.bind_some];rcases Zb h2 with ⟨a,h3,rfl⟩ | ⟨z,vs,h3,h4⟩
     ·obtain ⟨hm,ha⟩:=Zg h3
      rw [hm];exact ⟨_,XG us G (by omega) _,rfl,ha⟩
     ·have hm:=Zg h3
      simp only [AgN] at hm;rw [hm];exact i4 _ _ r h4 (Zh h3 ((xu f).1 _ _ _ _ h1 hW.tail)) G hG
   ·rw [if_neg hc] at h ⊢
    by_cases hd:zn (zx ts) [46]=true
    ·rw [if_pos hd] at h ⊢
     rcases Zb h with ⟨a,h1,rfl⟩ | ⟨y,us,h1,h2⟩
     ·obtain ⟨z,us,hq,ha⟩:=ZM (yL h1)
      simp only [hq];exact ⟨_,XG us G (by omega) _,rfl,ha⟩
     ·have hq:=yo (yL h1)
      simp only [hq];exact i4 _ _ r h2 (yC h1 hW.tail) G hG
    ·rw [if_neg hd] at h ⊢
     simp only [Option.some.injEq] at h;subst h;exact ⟨_,rfl,rfl⟩
  ·rw [Za] at h
   rw [Yk];rw [if_neg (by simp)]
   simp only;have no1:(zx ts).k=1→∀s,zn (zx ts) s=false:=fun h s=>by unfold zn;simp [h]
   by_cases c2:(zx ts).k=2
   ·rw [if_pos c2] at h ⊢
    simp only [Option.some.injEq] at h;subst h;exact ⟨_,rfl,rfl⟩
   rw [if_neg c2] at h ⊢
   by_cases c3:(zx ts).k=3
   ·rw [if_pos c3] at h ⊢
    simp only [Option.some.injEq] at h;subst h;exact ⟨_,rfl,rfl⟩
   rw [if_neg c3] at h ⊢
   by_cases c1:(zx ts).k=1
   ·rw [if_pos c1] at h
    rw [if_neg (by rw [no1 c1];simp),if_neg (by rw [no1 c1];simp),if_neg (by rw [no1 c1];simp),if_neg (by rw [no1 c1];simp),if_neg (by rw [no1 c1];simp),if_pos c1]
    by_cases hc:zn (zx ts.tail) [40]=true
    ·rw [if_pos hc] at h ⊢
     have hm:mustF [40] (false,ts.tail)=(false,ts.tail.tail):=by simp only [mustF,Z4,hc,if_true]
     rcases Zb h with ⟨a,h1,rfl⟩ | ⟨y,us,h1,h2⟩
     ·obtain ⟨q,hq,hA⟩:=i7 _ _ h1 hW.tail G hG
      obtain ⟨y,us,rfl,ha⟩:=ZM hA;rw [hm] at hq;simp only [hq,Option.bind_some];exact ⟨_,rfl,rfl,ha⟩
     ·obtain ⟨q,hq,hA⟩:=i7 _ _ h1 hW.tail G hG
      obtain rfl:=yo hA;rw [hm] at hq;simp only [Option.some.injEq] at h2;subst h2;simp only [hq,Option.bind_some];exact ⟨_,rfl,rfl⟩
    ·rw [if_neg hc] at h ⊢
     simp only [Option.some.injEq] at h;subst h;exact ⟨_,rfl,rfl⟩
   rw [if_neg c1] at h
   by_cases c4:zn (zx ts) [116,114,117,101]=true
   ·rw [if_pos c4] at h ⊢
    simp only [Option.some.injEq] at h;subst h;exact ⟨_,rfl,rfl⟩
   rw [if_neg c4] at h ⊢
   by_cases c5:zn (zx ts) [102,97,108,115,101]=true
   ·rw [if_pos c5] at h ⊢
    simp only [Option.some.injEq] at h;subst h;exact ⟨_,rfl,rfl⟩
   rw [if_neg c5] at h ⊢
   by_cases c6:zn (zx ts) [110,101,119]=true
   ·rw [if_pos c6] at h ⊢
    rcases Zb h with ⟨a,h1,rfl⟩ | ⟨y,us,h1,h2⟩
    ·obtain ⟨z,us,hq,ha⟩:=ZM (yL h1)
     simp only [hq,Zx,Q1 us G (by omega),Option.bind_some]
     exact ⟨_,rfl,rfl,ha⟩
    ·have hq:=yo (yL h1)
     simp only [hq];rcases Zb h2 with ⟨a,h3,rfl⟩ | ⟨z,vs,h3,h4⟩
     ·obtain ⟨q,hq2,hA⟩:=i7 _ _ h3 (yC h1 hW.tail) G hG
      obtain ⟨y2,us2,rfl,ha⟩:=ZM hA;simp only [hq2,Option.bind_some];exact ⟨_,rfl,rfl,ha⟩
     ·obtain ⟨q,hq2,hA⟩:=i7 _ _ h3 (yC h1 hW.tail) G hG
      obtain rfl:=yo hA;simp only [Option.some.injEq] at h4;subst h4;simp only [hq2,Option.bind_some];exact ⟨_,rfl,rfl⟩
   rw [if_neg c6] at h ⊢
   by_cases c7:zn (zx ts) [91]=true
   ·rw [if_pos c7] at h ⊢
    obtain ⟨K,rfl⟩:∃K,G=K+1:=⟨G-1,by omega⟩
    have hL:Yf (K+1) [93] true (false,ts.tail)=(vH K [] (false,ts.tail)).bind fun l=>some (l.1,mustF [93] l.2):=by rw [Yf,if_neg (by simp)]
    rw [hL];rcases Zb h with ⟨a,h1,rfl⟩ | ⟨y,us,h1,h2⟩
    ·obtain ⟨q,hq,hA⟩:=i6 _ _ _ h1 hW.tail K (by omega)
     obtain ⟨y2,us2,rfl,ha⟩:=ZM hA;simp only [hq,Option.bind_some,Zx];exact ⟨_,rfl,rfl,ha⟩
    ·obtain ⟨q,hq,hA⟩:=i6 _ _ _ h1 hW.tail K (by omega)
     obtain rfl:=yo hA;simp only [hq,Option.bind_some];rcases Zb h2 with ⟨a,h3,rfl⟩ | ⟨z,vs,h3,h4⟩
     ·obtain ⟨hm,ha⟩:=Zg h3
      rw [hm];exact ⟨_,rfl,rfl,ha⟩
     ·have hm:=Zg h3
      simp only [AgN] at hm;rw [hm];simp only [Option.some.injEq] at h4;subst h4;exact ⟨_,rfl,rfl⟩
   rw [if_neg c7] at h ⊢;rcases Zb h with ⟨a,h1,rfl⟩ | ⟨y,us,h1,h2⟩
   ·obtain ⟨hm,ha⟩:=Zg h1
    have c8:¬ zn (zx ts) [40]=true:=fun e=>by simp only [mustF,Z4,e,if_true] at hm;simp at hm
    rw [if_neg c8,if_neg c1];exact ⟨_,rfl,rfl,ha⟩
   ·have hm:=Zg h1
    simp only [AgN] at hm
    have c8:zn (zx ts) [40]=true:=by
     unfold Zf at h1
     by_cases e:zn (zx ts) [40]=true
     ·exact e
     ·rw [if_neg e] at h1;simp at h1
    rw [if_pos c8];simp only [mustF,Z4,c8,if_true,Prod.mk.injEq,true_and] at hm;subst hm;rcases Zb h2 with ⟨a,h3,rfl⟩ | ⟨z,vs,h3,h4⟩
    ·obtain ⟨q,hq,hA⟩:=i1 0 _ _ (by omega) h3 hW.tail G hG
     obtain ⟨y2,us2,rfl,ha⟩:=ZM hA;simp only [hq,Option.bind_some,Zx];exact ⟨_,rfl,rfl,ha⟩
    ·obtain ⟨q,hq,hA⟩:=i1 0 _ _ (by omega) h3 hW.tail G hG
     obtain rfl:=yo hA;simp only [hq,Option.bind_some];rcases Zb h4 with ⟨a,h5,rfl⟩ | ⟨z2,vs2,h5,h6⟩
     ·obtain ⟨hm,ha⟩:=Zg h5
      rw [hm];exact ⟨_,rfl,rfl,ha⟩
     ·have hm:=Zg h5
      simp only [AgN] at hm;rw [hm];simp only [Option.some.injEq] at h6;subst h6;exact ⟨_,rfl,rfl⟩
  ·rw [Yh] at h
   rw [vH,if_neg (by simp)]
   rcases Zb h with ⟨a,h1,rfl⟩ | ⟨y,us,h1,h2⟩
   ·obtain ⟨q,hq,hA⟩:=i1 0 _ _ (by omega) h1 hW G hG
    obtain ⟨y2,us2,rfl,ha⟩:=ZM hA;simp only [hq,Option.bind_some,x9,Bool.false_eq_true,if_false];exact ⟨_,rfl,rfl,ha⟩
   ·obtain ⟨q,hq,hA⟩:=i1 0 _ _ (by omega) h1 hW G hG
    obtain rfl:=yo hA;simp only [hq,Option.bind_some,Z4]
    by_cases hc:zn (zx us) [44]=true
    ·rw [if_pos hc] at h2 ⊢
     exact i6 _ _ r h2 (zy ((xu f).1 _ _ _ _ h1 hW)) G hG
    ·rw [if_neg hc] at h2 ⊢
     simp only [Option.some.injEq] at h2;subst h2;exact ⟨_,rfl,rfl⟩
  ·rw [zR] at h
   rcases Zb h with ⟨a,h1,rfl⟩ | ⟨y,us,h1,h2⟩
   ·obtain ⟨hm,ha⟩:=Zg h1
    rw [hm,Q1 ts (G+1) (by omega)]
    exact ⟨_,rfl,rfl,ha⟩
   ·have hm:=Zg h1
    simp only [AgN] at hm;have hWu:=Zh h1 hW;rw [hm,Yf];simp only [Z4,true_and]
    by_cases hc:zn (zx us) [41]=true
    ·rw [if_pos hc] at h2 ⊢
     simp only [Option.some.injEq] at h2;subst h2;exact ⟨_,rfl,rfl⟩
    ·rw [if_neg hc] at h2 ⊢
     rcases Zb h2 with ⟨a,h3,rfl⟩ | ⟨z,vs,h3,h4⟩
     ·obtain ⟨q,hq,hA⟩:=i6 _ _ _ h3 hWu G hG
      obtain ⟨y2,us2,rfl,ha⟩:=ZM hA;simp only [hq,Option.bind_some,Zx];exact ⟨_,rfl,rfl,ha⟩
     ·obtain ⟨q,hq,hA⟩:=i6 _ _ _ h3 hWu G hG
      obtain rfl:=yo hA;simp only [hq,Option.bind_some];rcases Zb h4 with ⟨a,h5,rfl⟩ | ⟨z2,vs2,h5,h6⟩
      ·obtain ⟨hm,ha⟩:=Zg h5
       rw [hm];exact ⟨_,rfl,rfl,ha⟩
      ·have hm:=Zg h5
       simp only [AgN] at hm;rw [hm];simp only [Option.some.injEq] at h6;subst h6;exact ⟨_,rfl,rfl⟩
theorem yG (s:List UInt8) (σ:RS):(mustF s σ).2.length≤σ.2.length:=by
 unfold mustF
 split
 ·simp
 ·exact Nat.le_refl _
theorem Xd (σ:RS):(nameF σ).2.2.length≤σ.2.length:=by
 unfold nameF
 split
 ·simp
 ·exact Nat.le_refl _
theorem Zw (ts:List Tk):ts.tail.length≤ts.length:=by simp
theorem uB (f:Nat) :
  (∀line σ q,Z7 f line σ=some q→q.2.2.length≤σ.2.length)∧(∀line e σ q,YN f line e σ=some q→q.2.2.length≤σ.2.length) ∧
  (∀σ q,yN f σ=some q→q.2.2.length≤σ.2.length)∧(∀e σ q,ZC f e σ=some q→q.2.2.length≤σ.2.length)∧(∀σ q,Yk f σ=some q→q.2.2.length≤σ.2.length) ∧
  (∀s b σ q,Yf f s b σ=some q→q.2.2.length≤σ.2.length)∧(∀pre σ q,vH f pre σ=some q→q.2.2.length≤σ.2.length):=by
 induction f with
 | zero=>refine ⟨?_,?_,?_,?_,?_,?_,?_⟩ <;> intros <;> rename_i h <;> simp [Z7,YN,yN,ZC,Yk,Yf,vH] at h
 | succ f ih =>
  obtain ⟨i1,i2,i3,i4,i5,i6,i7⟩:=ih;refine ⟨fun line σ q h=>?_,fun line e σ q h=>?_,fun σ q h=>?_,fun e σ q h=>?_,fun σ q h=>?_,fun s b σ q h=>?_,fun pre σ q h=>?_⟩
  ·rw [Z7] at h
   split at h
   ·exact i3 _ _ h
   ·obtain ⟨y,h1,h2⟩:=Option.bind_eq_some_iff.1 h
    exact Nat.le_trans (i2 _ _ _ _ h2) (i1 _ _ _ h1)
  ·rw [YN] at h
   split at h
   ·obtain ⟨y,h1,h2⟩:=Option.bind_eq_some_iff.1 h
    exact Nat.le_trans (i2 _ _ _ _ h2) (Nat.le_trans (i1 _ _ _ h1) (Zw _))
   ·obtain rfl:=Option.some.inj h;exact Nat.le_refl _
  ·rw [yN] at h
   split at h
   ·obtain ⟨y,h1,h2⟩:=Option.bind_eq_some_iff.1 h
    obtain rfl:=Option.some.inj h2;have a:=i3 _ _ h1;exact Nat.le_trans a (Zw _)
   split at h
   ·obtain ⟨y,h1,h2⟩:=Option.bind_eq_some_iff.1 h
    obtain rfl:=Option.some.inj h2;have a:=i3 _ _ h1;exact Nat.le_trans a (Zw _)
   ·obtain ⟨y,h1,h2⟩:=Option.bind_eq_some_iff.1 h
    exact Nat.le_trans (i4 _ _ _ h2) (i5 _ _ h1)
  ·rw [ZC] at h
   split at h
   ·obtain ⟨y,h1,h2⟩:=Option.bind_eq_some_iff.1 h
    exact Nat.le_trans (i4 _ _ _ h2) (Nat.le_trans (yG _ _) (Nat.le_trans (i1 _ _ _ h1) (Zw _)))
   split at h
   ·exact Nat.le_trans (i4 _ _ _ h) (Nat.le_trans (Xd _) (Zw _))
   ·obtain rfl:=Option.some.inj h;exact Nat.le_refl _
  ·rw [Yk] at h
   by_cases c:σ.1=true
   ·rw [if_pos c] at h
    obtain rfl:=Option.some.inj h;exact Nat.le_refl _
   rw [if_neg c] at h;clear c
   by_cases c:(zx σ.2).k=2
   ·rw [if_pos c] at h
    obtain rfl:=Option.some.inj h;exact Zw _
   rw [if_neg c] at h;clear c
   by_cases c:(zx σ.2).k=3
   ·rw [if_pos c] at h
    obtain rfl:=Option.some.inj h;exact Zw _
   rw [if_neg c] at h;clear c
   by_cases c:zn (zx σ.2) [116,114,117,101]=true
   ·rw [if_pos c] at h
    obtain rfl:=Option.some.inj h;exact Zw _
   rw [if_neg c] at h;clear c
   by_cases c:zn (zx σ.2) [102,97,108,115,101]=true
   ·rw [if_pos c] at h
    obtain rfl:=Option.some.inj h;exact Zw _
   rw [if_neg c] at h;clear c
   by_cases c:zn (zx σ.2) [110,101,119]=true
   ·rw [if_pos c] at h
    obtain ⟨y,h1,h2⟩:=Option.bind_eq_some_iff.1 h;obtain rfl:=Option.some.inj h2;exact Nat.le_trans (i6 _ _ _ _ h1) (Nat.le_trans (yG _ _) (Nat.le_trans (Xd _) (Zw _)))
   rw [if_neg c] at h;clear c
   by_cases c:zn (zx σ.2) [91]=true
   ·rw [if_pos c] at h
    obtain ⟨y,h1,h2⟩:=Option.bind_eq_some_iff.1 h;obtain rfl:=Option.some.inj h2;exact Nat.le_trans (i6 _ _ _ _ h1) (Zw _)
   rw [if_neg c] at h;clear c
   by_cases c:zn (zx σ.2) [40]=true
   ·rw [if_pos c] at h
    obtain ⟨y,h1,h2⟩:=Option.bind_eq_some_iff.1 h;obtain rfl:=Option.some.inj h2;have a:=i1 _ _ _ h1;exact Nat.le_trans (yG _ _) (Nat.le_trans a (Zw _))
   rw [if_neg c] at h;clear c
   by_cases c:(zx σ.2).k=1
   ·rw [if_pos c] at h
    by_cases d:zn (zx σ.2.tail) [40]=true
    ·rw [if_pos d] at h
     obtain ⟨y,h1,h2⟩:=Option.bind_eq_some_iff.1 h;obtain rfl:=Option.some.inj h2;exact Nat.le_trans (i6 _ _ _ _ h1) (Nat.le_trans (Zw _) (Zw _))
    ·rw [if_neg d] at h
     obtain rfl:=Option.some.inj h;exact Zw _
   rw [if_neg c] at h;clear c;obtain rfl:=Option.some.inj h;exact Nat.le_refl _
  ·rw [Yf] at h
   split at h
   ·obtain rfl:=Option.some.inj h;exact Zw _
   ·obtain ⟨y,h1,h2⟩:=Option.bind_eq_some_iff.1 h
    obtain rfl:=Option.some.inj h2;exact Nat.le_trans (yG _ _) (i7 _ _ _ h1)
  ·rw [vH] at h
   split at h
   ·obtain rfl:=Option.some.inj h;exact Nat.le_refl _
   ·obtain ⟨y,h1,h2⟩:=Option.bind_eq_some_iff.1 h
    split at h2
    ·exact Nat.le_trans (i7 _ _ _ h2) (Nat.le_trans (Zw _) (i1 _ _ _ h1))
    ·obtain rfl:=Option.some.inj h2
     exact i1 _ _ _ h1
structure YW (r g p cap:Nat) (TS:List Tk) (σ:RS) (w:World):Prop where
 rest:σ.2=TS.drop p
 lt:p<TS.length
 blk:w.heap[r]?=some (.cells #[.slice (some ⟨g,0,none⟩) TS.length cap,.int .i64 (p:Int),.bool σ.1] 63 (0,0))
 other:r≠g
 glt:g<w.heap.size
 hcap:TS.length≤cap
 hmax:cap≤maxLen
 few:TS.length≤1099511627776
 toks:∀j u,(z8 TS)[j]?=some u→w.cell? ⟨g,j,none⟩=some u
 ends:zj σ.2
def zz (r g:Nat) (σ:RS) (w:World):Prop:=∃p cap TS,YW r g p cap TS σ w
theorem YW.keep {r g p cap:Nat} {TS:List Tk} {σ:RS} {w w':World} (h:YW r g p cap TS σ w) (hr:w'.heap[r]?=w.heap[r]?) (hg:w'.heap[g]?=w.heap[g]?):YW r g p cap TS σ w' where
 rest:=h.rest
 lt:=h.lt
 blk:=hr.trans h.blk
 other:=h.other
 glt:=by
  have h1:=h.glt;rw [Array.getElem?_eq_getElem h1] at hg;exact (Array.getElem?_eq_some_iff.1 hg).1
 hcap:=h.hcap
 hmax:=h.hmax
 few:=h.few
 toks:=fun j u hj=>by rw [World.cell?_of_block hg];exact h.toks j u hj
 ends:=h.ends
theorem zz.keep {r g:Nat} {σ:RS} {w w':World} (h:zz r g σ w) (hr:w'.heap[r]?=w.heap[r]?) (hg:w'.heap[g]?=w.heap[g]?):zz r g σ w':=by
 obtain ⟨p,cap,TS,h⟩:=h;exact ⟨p,cap,TS,h.keep hr hg⟩
theorem zz.lt {r g:Nat} {σ:RS} {w:World} (h:zz r g σ w):r<w.heap.size∧g<w.heap.size:=by
 obtain ⟨p,cap,TS,h⟩:=h;exact ⟨(Array.getElem?_eq_some_iff.1 h.blk).1,h.glt⟩
theorem zz.ends {r g:Nat} {σ:RS} {w:World} (h:zz r g σ w):zj σ.2:=by
 obtain ⟨p,cap,TS,h⟩:=h;exact h.ends
theorem zz.few {r g:Nat} {σ:RS} {w:World} (h:zz r g σ w):σ.2.length≤1099511627776:=by
 obtain ⟨p,cap,TS,h⟩:=h
 have:=h.few
 rw [h.rest,List.length_drop];omega
theorem zz.below {r g:Nat} {σ:RS} {w w':World} (h:zz r g σ w) (hb:Below w.heap.size w w'):zz r g σ w':=h.keep (hb.block _ h.lt.1) (hb.block _ h.lt.2)
theorem zz.alloc {r g:Nat} {σ:RS} {w:World} (h:zz r g σ w) (ob:Obj):zz r g σ (w.alloc ob):=h.keep (Below.heap_alloc _ _ _ h.lt.1) (Below.heap_alloc _ _ _ h.lt.2)
theorem YW.step {r g p cap:Nat} {TS:List Tk} {σ:RS} {w:World} (h:YW r g p cap TS σ w) (hk:(zx σ.2).k≠0):YW r g (p+1) cap TS (σ.1,σ.2.tail) (w.setCell ⟨r,1,none⟩ (.int .i64 ((p:Int)+1))) where
 rest:=by show σ.2.tail=_;rw [h.rest,List.tail_drop]
 lt:=by
  have h1:=Yr h.ends hk;have h2:=List.length_pos_iff.2 h1.ne;rw [h.rest,List.tail_drop,List.length_drop] at h2;omega
 blk:=zm _ h.blk
 other:=h.other
 glt:=by simpa using h.glt
 hcap:=h.hcap
 hmax:=h.hmax
 few:=h.few
 toks:=fun j u hj=>by
  have ho:=h.other;rw [World.cell?_setCell_other _ _ _ _ (by simp)]
  exact h.toks j u hj
 ends:=Yr h.ends hk
theorem YW.fail {r g p cap:Nat} {TS:List Tk} {σ:RS} {w:World} (h:YW r g p cap TS σ w):YW r g p cap TS (true,σ.2) (w.setCell ⟨r,2,none⟩ (.bool true)) where
 rest:=h.rest
 lt:=h.lt
 blk:=zm _ h.blk
 other:=h.other
 glt:=by simpa using h.glt
 hcap:=h.hcap
 hmax:=h.hmax
 few:=h.few
 toks:=fun j u hj=>by
  have ho:=h.other;rw [World.cell?_setCell_other _ _ _ _ (by simp)]
  exact h.toks j u hj
 ends:=h.ends
def Z8 (r:Nat) (w:World):Nat:=match w.cell? ⟨r,0,none⟩,w.cell? ⟨r,1,none⟩ with | some (.slice _ n _),some (.int _ p)=>n-p.toNat | _,_=>0
theorem ZN {w:World} {N:Nat} {x0 x1 x2:Value} {ty:TypeId} (h:w.heap[N]?=some (.cells #[x0,x1,x2] ty (0,0))):w.cell? ⟨N,0,none⟩=some x0∧w.cell? ⟨N,1,none⟩=some x1∧w.cell? ⟨N,2,none⟩=some x2∧∀j,w.frozen? ⟨N,j,none⟩=false:=by
 refine ⟨?_,?_,?_,fun j=>?_⟩
 ·simp only [World.cell?,h];rfl
 ·simp only [World.cell?,h];rfl
 ·simp only [World.cell?,h];rfl
 ·simp only [World.frozen?,h];simp
theorem zz.left {r g:Nat} {σ:RS} {w:World} (h:zz r g σ w):Z8 r w=σ.2.length:=by
 obtain ⟨p,cap,TS,h⟩:=h;obtain ⟨h0,h1,-,-⟩:=ZN h.blk
 unfold Z8
 rw [h0,h1,h.rest,List.length_drop]
 simp
theorem Qq (TS:List Tk):∀p,(z8 TS).drop (p*5)=z8 (TS.drop p):=by
 induction TS with
 | nil=>intro p;simp [z8]
 | cons t ts ih =>
  intro p;cases p with
  | zero=>simp
  | succ p =>
   rw [List.drop_succ_cons,←ih p]
   unfold z8
   rw [List.flatMap_cons];rw [show (p+1)*5=5+p*5 by omega,←List.drop_drop]
   rfl
theorem YW.tok {r g p cap:Nat} {TS:List Tk} {σ:RS} {w:World} (h:YW r g p cap TS σ w) (t:Tk) (ht:t=zx σ.2):w.cell? ⟨g,p*5,none⟩=some (.int .i64 t.k)∧w.cell? ⟨g,p*5+1,none⟩=some (.string (za t.s))∧w.cell? ⟨g,p*5+2,none⟩=some (.int .i64 t.n)∧w.cell? ⟨g,p*5+3,none⟩=some (.int .i64 t.line)∧w.cell? ⟨g,p*5+4,none⟩=some (.int .i64 t.at0):=by
 have key:∀j u,[Value.int .i64 t.k,.string (za t.s),.int .i64 t.n,.int .i64 t.line,.int .i64 t.at0][j]?=some u→w.cell? ⟨g,p*5+j,none⟩=some u:=fun j u hj=>by
  refine h.toks _ _ ?_;rw [←List.getElem?_drop,Qq,←h.rest];obtain ⟨t',ts,e⟩:=h.ends.cons;rw [e] at ht ⊢
  have:t=t':=ht
  subst this
  unfold z8
  rw [List.flatMap_cons,List.getElem?_append_left (by have:=(List.getElem?_eq_some_iff.1 hj).1;simpa using this)]
  exact hj
 exact ⟨key 0 _ rfl,key 1 _ rfl,key 2 _ rfl,key 3 _ rfl,key 4 _ rfl⟩
theorem xO (r g:Nat) (σ:RS) (w:World) (h:zz r g σ w) :
  Calls Tryz.prog 26 #[.pointer (some ⟨r,0,none⟩)] w fun e w'=>e=.returned (Xc (zx σ.2))∧Below w.heap.size w w':=by
 obtain ⟨p,cap,TS,h⟩:=h;obtain ⟨t,ht⟩:∃t,t=zx σ.2:=⟨_,rfl⟩;obtain ⟨t0,t1,t2,t3,t4⟩:=h.tok t ht;rw [←ht];obtain ⟨h0,h1,h2,-⟩:=ZN h.blk;have hlt:=h.lt;have hfew:=h.few;have hm:=h.hmax;have hc:=h.hcap;obtain ⟨n,hn⟩:∃n,n=TS.length:=⟨_,rfl⟩;rw [←hn] at h0 hlt hfew hc;have hp1:(p:Int)<(n:Int):=by omega
 have t0':=ze t0;have t1':=ze t1;have t2':=ze t2;have t3':=ze t3;have t4':=ze t4;have h0':=ze h0;have h1':=ze h1;clear h ht hn
 go_enter Tryz.func26,Tryz.ntmps26
 go_wp2
 go_region
 go_wp2
 exact bodyPost_ret (v:=Xc t) (by simp [results,Tryz.results26,go_sem]) rfl ⟨rfl,((Below.refl _ w).alloc (Nat.le_refl _) _).drew⟩
theorem zc0 (r g:Nat) (σ:RS) (s:List UInt8) (w:World) (h:zz r g σ w) :
  Calls Tryz.prog 63 #[.pointer (some ⟨r,0,none⟩),.string (za s)] w fun e w'=>e=.returned (.bool (zO s σ))∧Below w.heap.size w w':=by
 have ch:=xO r g σ w h;obtain ⟨t,ht⟩:∃t,t=zx σ.2:=⟨_,rfl⟩;obtain ⟨b,hb⟩:∃b,b=σ.1:=⟨_,rfl⟩;have he:zO s σ=(!b&&zn t s):=by rw [ht,hb];rfl
 rw [he];rw [←ht] at ch
 go_enter Tryz.func63,Tryz.ntmps63
 go_wp2_with fail
 refine ch.mono ?_;clear ch;rintro e w1 ⟨rfl,hb1⟩;have HB:Hid (∀ob,Below w.heap.size w (w1.alloc ob)):=fun ob=>hb1.alloc hb1.size ob
 obtain ⟨p,cap,TS,h1⟩:=h.below hb1;obtain ⟨-,-,h2,-⟩:=ZN h1.blk;rw [←hb] at h2;have h2':=ze h2;clear h h1 hb1 ht hb he h2;simp only [Xc];obtain ⟨k,s',n,line,at0⟩:=t;cases b
 ·by_cases h4:k=4
  ·subst h4
   go_wp2
   all_goals
    refine bodyPost_ret (v:=.bool (s'==s)) (by simp [results,Tryz.results63,go_sem, *]) rfl ⟨by simp [zn],HB.out _⟩
  ·have h4':¬ (k:Int)=4:=by omega
   have e4:(k==4)=false:=by simpa using h4
   by_cases h5:k=5
   ·subst h5
    go_wp2
    all_goals
     refine bodyPost_ret (v:=.bool (s'==s)) (by simp [results,Tryz.results63,go_sem, *]) rfl ⟨by simp [zn],HB.out _⟩
   ·have h5':¬ (k:Int)=5:=by omega
    have e5:(k==5)=false:=by simpa using h5
    go_wp2
    all_goals
     refine bodyPost_ret (v:=.bool false) (by simp [results,Tryz.results63,go_sem, *]) rfl ⟨by simp [zn,e4,e5],HB.out _⟩
 ·go_wp2
  all_goals
   refine bodyPost_ret (v:=.bool false) (by simp [results,Tryz.results63,go_sem, *]) rfl ⟨by simp [zn],HB.out _⟩
theorem Yo {s:List UInt8} {σ:RS} (h:zO s σ=true):σ.1=false∧zn (zx σ.2) s=true∧(zx σ.2).k≠0:=by
 unfold zO at h
 rw [Bool.and_eq_true] at h;exact ⟨by simpa using h.1,h.2,zl h.2⟩
theorem Zd (r g:Nat) (σ:RS) (s:List UInt8) (w:World) (h:zz r g σ w) :
  Calls Tryz.prog 59 #[.pointer (some ⟨r,0,none⟩),.string (za s)] w fun e w'=>e=.returned (.bool (zO s σ))∧zc r w w'∧zz r g (y9 s σ) w':=by
 have ch:=zc0 r g σ s w h
 go_enter Tryz.func59,Tryz.ntmps59
 go_wp2_with fail
 refine ch.mono ?_;clear ch;rintro e w1 ⟨rfl,hbw⟩;have HK:Hid (zc r w w1):=zc.of hbw;obtain ⟨p,cap,TS,hb1⟩:=h.below hbw;obtain ⟨c0,c1,c2,cf⟩:=ZN hb1.blk;have hpl:p≤1099511627776:=by have:=hb1.lt;have:=hb1.few;omega
 have HB:Hid (YW r g p cap TS σ w1):=hb1;cases hi:zO s σ
 ·have HT:Hid (y9 s σ=σ):=show _=_ by unfold y9;rw [if_neg (by simp [hi])]
  clear h hb1 hbw;go_wp2
  refine bodyPost_ret (v:=.bool false) (by simp [results,Tryz.results59,go_sem]) rfl ⟨by rw [hi],HK.out,?_⟩
  rw [HT.out];exact ⟨p,cap,TS,HB.out⟩
 ·obtain ⟨e1,e2,e3⟩:=Yo hi
  have HT:Hid (y9 s σ=(σ.1,σ.2.tail)):=show _=_ by unfold y9;rw [if_pos hi,e1]
  have HS:Hid (YW r g (p+1) cap TS (σ.1,σ.2.tail) (w1.setCell ⟨r,1,none⟩ (.int .i64 ((p:Int)+1)))):=hb1.step e3;clear h hb1 hbw e1 e2 e3;go_wp2
  refine bodyPost_ret (v:=.bool true) (by simp [results,Tryz.results59,go_sem]) rfl ⟨by rw [hi],HK.out.setCell _ _,?_⟩
  rw [HT.out];exact ⟨_,_,_,HS.out⟩
theorem yD (r g:Nat) (σ:RS) (s:List UInt8) (w:World) (h:zz r g σ w) :
  Calls Tryz.prog 61 #[.pointer (some ⟨r,0,none⟩),.string (za s)] w fun e w'=>e=.returned (.tuple #[])∧zc r w w'∧zz r g (mustF s σ) w':=by
 have ch:=Zd r g σ s w h;clear h;cases hi:zO s σ
 ·have HM:Hid (mustF s σ=(true,σ.2)∧y9 s σ=σ):=⟨by unfold mustF;rw [if_neg (by simp [hi])],by unfold y9;rw [if_neg (by simp [hi])]⟩
  rw [hi] at ch
  go_enter Tryz.func61,Tryz.ntmps61
  go_wp2_with fail
  refine ch.mono ?_;clear ch;rintro e w1 ⟨rfl,hk,hr⟩;rw [HM.out.2] at hr;obtain ⟨p,cap,TS,hb1⟩:=hr;obtain ⟨c0,c1,c2,cf⟩:=ZN hb1.blk;have HS:Hid (YW r g p cap TS (true,σ.2) (w1.setCell ⟨r,2,none⟩ (.bool true))):=hb1.fail;have HK:Hid (zc r w w1):=hk;clear hb1 hk;go_wp2
  refine bodyPost_end (v:=.tuple #[]) (by simp [results,Tryz.results61]) rfl ⟨rfl,HK.out.setCell _ _,?_⟩
  rw [HM.out.1];exact ⟨_,_,_,HS.out⟩
 ·have HM:Hid (mustF s σ=y9 s σ):=show _=_ by unfold mustF y9;rw [if_pos hi,if_pos hi]
  rw [hi] at ch
  go_enter Tryz.func61,Tryz.ntmps61
  go_wp2_with fail
  refine ch.mono ?_;clear ch;rintro e w1 ⟨rfl,hk,hr⟩;have HK:Hid (zc r w w1):=hk;have HR:Hid (zz r g (mustF s σ) w1):=show zz _ _ _ _ by rw [HM.out];exact hr
  clear hk hr;go_wp2
  exact bodyPost_end (v:=.tuple #[]) (by simp [results,Tryz.results61]) rfl ⟨rfl,HK.out,HR.out⟩
theorem V3 (r g:Nat) (σ:RS) (w:World) (h:zz r g σ w) :
  Calls Tryz.prog 60 #[.pointer (some ⟨r,0,none⟩)] w fun e w'=>e=.returned (.string (za (nameF σ).1))∧zc r w w'∧zz r g (nameF σ).2 w':=by
 have ch:=xO r g σ w h;obtain ⟨t,ht⟩:∃t,t=zx σ.2:=⟨_,rfl⟩;obtain ⟨b,hb⟩:∃b,b=σ.1:=⟨_,rfl⟩;rw [←ht] at ch
 go_enter Tryz.func60,Tryz.ntmps60
 go_wp2_with fail
 refine ch.mono ?_;clear ch;rintro e w1 ⟨rfl,hb1⟩;simp only [Xc];obtain ⟨p,cap,TS,hb2⟩:=h.below hb1;have hA:∀ob,YW r g p cap TS σ (w1.alloc ob):=fun ob=>hb2.keep (Below.heap_alloc _ _ _ (Array.getElem?_eq_some_iff.1 hb2.blk).1) (Below.heap_alloc _ _ _ hb2.glt)
 have c1:=fun ob=>(ZN (hA ob).blk).2.1
 have c2:=fun ob=>(ZN (hA ob).blk).2.2.1
 have cf:=fun ob j=>(ZN (hA ob).blk).2.2.2 j
 have hpl:p≤1099511627776:=by have:=hb2.lt;have:=hb2.few;omega
 simp only [←hb] at c2;have HA:Hid (YW r g p cap TS σ w1∧Below w.heap.size w w1):=⟨hb2,hb1⟩;have hr1:r<w1.heap.size:=(Array.getElem?_eq_some_iff.1 hb2.blk).1;have HT:Hid (t=zx σ.2∧b=σ.1):=⟨ht,hb⟩;clear h hb1 hb2 hA ht hb;obtain ⟨k,s',n,line,at0⟩:=t
 by_cases hc:b=false∧k=1
 ·obtain ⟨rfl,rfl⟩:=hc
  have HN:Hid (nameF σ=(s',(σ.1,σ.2.tail))):=show _=_ by unfold nameF;rw [if_pos ⟨HT.out.2.symm,by rw [←HT.out.1]⟩,←HT.out.1,←HT.out.2]
  have HS:Hid (∀ob,zz r g (σ.1,σ.2.tail) ((w1.setCell ⟨r,1,none⟩ (.int .i64 ((p:Int)+1))).alloc ob)):=fun ob=>zz.alloc ⟨_,_,_,HA.out.1.step (by rw [←HT.out.1];exact Nat.one_ne_zero)⟩ ob
  go_wp2
  refine bodyPost_ret (v:=.string (za s')) (by simp [results,Tryz.results60,go_sem]) rfl ⟨by rw [HN.out],((zc.of HA.out.2).setCell _ _).alloc _,?_⟩
  rw [HN.out];exact HS.out _
 ·have HN:Hid (nameF σ=([],(true,σ.2))):=show _=_ by unfold nameF;rw [if_neg (by rw [←HT.out.1,←HT.out.2];exact hc)]
  have HS:Hid (∀ob,zz r g (true,σ.2) ((w1.setCell ⟨r,2,none⟩ (.bool true)).alloc ob)):=fun ob=>zz.alloc ⟨_,_,_,HA.out.1.fail⟩ ob
  cases b
  ·have hk2':¬ (k:Int)=1:=fun he=>hc ⟨rfl,by omega⟩
   have hk3:((k:Int)==1)=false:=by rw [beq_eq_false_iff_ne];exact hk2'
   have hk4:((k:Int) != 1)=true:=by simp [bne,hk3]
   clear hc;go_wp2
   refine bodyPost_ret (v:=.string ⟨#[]⟩) (by simp [results,Tryz.results60,go_sem]) rfl ⟨by rw [HN.out],((zc.of HA.out.2).setCell _ _).alloc _,?_⟩
   rw [HN.out];exact HS.out _
  ·clear hc
   go_wp2
   refine bodyPost_ret (v:=.string ⟨#[]⟩) (by simp [results,Tryz.results60,go_sem]) rfl ⟨by rw [HN.out],((zc.of HA.out.2).setCell _ _).alloc _,?_⟩
   rw [HN.out];exact HS.out _
end Go.Proofs.YtpejpbbdgblbeaaGreatDoor
