import Derived.Test.YtpejpbbdgblbeaaGreatDoorMC35
import Derived.Test.YtpejpbbdgblbeaaGreatDoorMC27
import Derived.Test.YtpejpbbdgblbeaaGreatDoorMC29
import Derived.Test.YtpejpbbdgblbeaaGreatDoorMC19
namespace Go.Proofs.YtpejpbbdgblbeaaGreatDoor
open Go.RowKit Go.Shelf
set_option maxHeartbeats 16000000
set_option maxRecDepth 100000
def xS:Nat→RS→Option (List UInt8 × RS)
 | 0,_=>none
 | f+1,σ=>if zO [91] σ=true then (xS f (false,σ.2.tail)).bind fun q=>some ([91]++q.1++[93],mustF [93] q.2) else some (nameF σ)
def yP:Nat→List Pm→RS→Option (List Pm × RS)
 | 0,_,_=>none
 | f+1,pre,σ=>if σ.1=true then some (pre,σ) else (xS f (mustF [58] (nameF σ).2)).bind fun q=>if zO [44] q.2=true then yP f (pre++[((nameF σ).1,q.1)]) (false,q.2.2.tail) else some (pre++[((nameF σ).1,q.1)],q.2)
mutual
def Xu:Nat→RS→Option (St × RS)
 | 0,_=>none
 | f+1,σ =>
  if zO [108,101,116] σ=true then (Z7 f 0 (mustF [61] (nameF (false,σ.2.tail)).2)).bind fun e=>some (.mk 1 (nameF (false,σ.2.tail)).1 [e.1] [] [] (zx σ.2).line,mustF [59] e.2)
  else if zO [105,102] σ=true then (Z7 f 0 (false,σ.2.tail)).bind fun e=>(yK f e.2).bind fun b=>if zO [101,108,115,101] b.2=true then (yK f (false,b.2.2.tail)).bind fun c=>some (.mk 4 [] [e.1] b.1 c.1 (zx σ.2).line,c.2) else some (.mk 3 [] [e.1] b.1 [] (zx σ.2).line,b.2)
  else if zO [119,104,105,108,101] σ=true then (Z7 f 0 (false,σ.2.tail)).bind fun e=>(yK f e.2).bind fun b=>some (.mk 5 [] [e.1] b.1 [] (zx σ.2).line,b.2)
  else if zO [114,101,116,117,114,110] σ=true then if zn (zx σ.2.tail) [59]=true then some (.mk 6 [] [] [] [] (zx σ.2).line,(false,σ.2.tail.tail)) else (Z7 f 0 (false,σ.2.tail)).bind fun e=>some (.mk 6 [] [e.1] [] [] (zx σ.2).line,mustF [59] e.2)
  else (Z7 f 0 σ).bind fun e=>if zO [61] e.2=true then (Z7 f 0 (if YQ e.1=true then (false,e.2.2.tail) else (true,e.2.2))).bind fun e2=>some (.mk 2 [] [e.1,e2.1] [] [] (zx σ.2).line,mustF [59] e2.2) else some (.mk 7 [] [e.1] [] [] (zx σ.2).line,mustF [59] e.2)
def yK:Nat→RS→Option (List St × RS)
 | 0,_=>none
 | f+1,σ=>Yv f [] (mustF [123] σ)
def Yv:Nat→List St→RS→Option (List St × RS)
 | 0,_,_=>none
 | f+1,pre,σ=>if σ.1=true then some (pre,σ) else if zO [125] σ=true then some (pre,(false,σ.2.tail)) else (Xu f σ).bind fun q=>Yv f (pre++[q.1]) q.2
end
theorem zbP (ts:List Tk) (F:Nat) (h:1≤F):xS F (true,ts)=some ([],(true,ts)):=by
 obtain ⟨G,rfl⟩:∃G,F=G+1:=⟨F-1,by omega⟩
 rw [xS,if_neg (by simp [zO]),Q0]
theorem XH (ts:List Tk) (F:Nat) (h:1≤F) (pre:List Pm):yP F pre (true,ts)=some (pre,(true,ts)):=by
 obtain ⟨G,rfl⟩:∃G,F=G+1:=⟨F-1,by omega⟩
 rw [yP,if_pos rfl]
theorem V4 (ts:List Tk) (F:Nat) (h:1≤F) (pre:List St):Yv F pre (true,ts)=some (pre,(true,ts)):=by
 obtain ⟨G,rfl⟩:∃G,F=G+1:=⟨F-1,by omega⟩
 rw [Yv,if_pos rfl]
theorem Xv (ts:List Tk) (F:Nat) (h:2≤F):yK F (true,ts)=some ([],(true,ts)):=by
 obtain ⟨G,rfl⟩:∃G,F=G+1:=⟨F-1,by omega⟩
 rw [yK,Zx,V4 ts G (by omega)]
def AgO {α:Type} (r:PR α) (x:Option (α × RS)):Prop:=∃q,x=some q∧Xt r q
theorem yY {α β:Type} {x:Option (PR α)} {k:α→List Tk→Option (PR β)} {r:PR β} {X:Option (α × RS)} {K:α × RS→Option (β × RS)} (h:zq x k=some r) (hx:∀r1,x=some r1→AgO r1 X) (hbad:∀y us,∃z,K (y,(true,us))=some (z,(true,us))) (hok:∀y us,x=some (.ok (y,us))→k y us=some r→AgO r (K (y,(false,us)))):AgO r (X.bind K):=by
 rcases Zb h with ⟨a,h1,rfl⟩ | ⟨y,us,h1,h2⟩
 ·obtain ⟨q,hq,hA⟩:=hx _ h1
  obtain ⟨y,us,rfl,ha⟩:=ZM hA;obtain ⟨z,hz⟩:=hbad y us;exact ⟨(z,(true,us)),by rw [hq];exact hz,rfl,ha⟩
 ·obtain ⟨q,hq,hA⟩:=hx _ h1
  obtain rfl:=yo hA;rw [hq];exact hok y us h1 h2
theorem Ud {α:Type} {s:List UInt8} {ts:List Tk} {y:α} {r:PR α} (h:(zq (Zf s ts) fun _ us=>some (.ok (y,us)))=some r):AgO r (some (y,mustF s (false,ts))):=by
 rcases Zb h with ⟨a,h7,rfl⟩ | ⟨_,zs,h7,h8⟩
 ·obtain ⟨hm,ha⟩:=Zg h7
  rw [hm];exact ⟨_,rfl,rfl,ha⟩
 ·have hm:=Zg h7
  simp only [AgN] at hm;rw [hm];simp only [Option.some.injEq] at h8;subst h8;exact ⟨_,rfl,rfl⟩
theorem VF {α:Type} {y:α} {us:List Tk} {r:PR α} (h:some (.ok (y,us))=some r):AgO r (some (y,(false,us))):=by
 simp only [Option.some.injEq] at h;subst h;exact ⟨_,rfl,rfl⟩
def XU:Nat→RS→RS
 | 0,σ=>σ
 | n+1,σ=>XU n (mustF [93] σ)
theorem V5 (n:Nat) (ts:List Tk):XU n (true,ts)=(true,ts):=by
 induction n with
 | zero=>rfl
 | succ n ih=>rw [XU,Zx,ih]
theorem zfX {n:Nat}:∀{ts us:List Tk},yJ n ts=.ok us→XU n (false,ts)=(false,us):=by
 induction n with
 | zero=>intro ts us h;cases h;rfl
 | succ n ih =>
  intro ts us h;rw [yJ] at h
  split at h
  ·rename_i hc
   rw [XU,show mustF [93] (false,ts)=(false,ts.tail) by simp only [mustF,Z4,hc,if_true]]
   exact ih h
  ·cases h
theorem zeB {n:Nat}:∀{ts:List Tk} {a:Nat},yJ n ts=.error a→∃us,XU n (false,ts)=(true,us)∧(zx us).at0=a:=by
 induction n with
 | zero=>intro ts a h;cases h
 | succ n ih =>
  intro ts a h;rw [yJ] at h
  split at h
  ·rename_i hc
   rw [XU,show mustF [93] (false,ts)=(false,ts.tail) by simp only [mustF,Z4,hc,if_true]]
   exact ih h
  ·rename_i hc
   cases h
   exact ⟨ts,by rw [XU,show mustF [93] (false,ts)=(true,ts) by simp only [mustF,Z4];rw [if_neg hc],V5],rfl⟩
theorem qC:∀(ts:List Tk) (F:Nat),ts.length+1≤F→∃q,xS F (false,ts)=some q∧∀k,Xt (yF k ts) (List.replicate k 91++q.1++List.replicate k 93,XU k q.2)
 | [],F,h=>by
  obtain ⟨G,rfl⟩:∃G,F=G+1:=⟨F-1,by omega⟩
  refine ⟨([],(true,[])),?_,fun k=>?_⟩
  ·rw [xS,if_neg (by simp [zO,zn,zx])]
   simp [nameF,zx]
  ·simp only [yF,V5]
   exact ⟨rfl,rfl⟩
 | t::ts,F,h=>by
  obtain ⟨G,rfl⟩:∃G,F=G+1:=⟨F-1,by omega⟩
  by_cases hc:zn t [91]=true
  ·obtain ⟨q,hq,hA⟩:=qC ts G (by simp only [List.length_cons] at h;omega)
   refine ⟨([91]++q.1++[93],mustF [93] q.2),?_,fun k=>?_⟩
   ·rw [xS,if_pos (by rw [Z4];exact hc)]
    simp only [List.tail_cons,hq,Option.bind_some]
   ·rw [yF,if_pos hc]
    have h1:=hA (k+1)
    have e:List.replicate k (91:UInt8)++([91]++q.1++[93])++List.replicate k 93=List.replicate (k+1) 91++q.1++List.replicate (k+1) 93:=by
     rw [List.replicate_succ' (n:=k) (a:=(91:UInt8)),List.replicate_succ (n:=k) (a:=(93:UInt8))]
     simp
    simp only at e ⊢;rw [e];exact h1
  ·refine ⟨nameF (false,t::ts),?_,fun k=>?_⟩
   ·rw [xS,if_neg (by rw [Z4];exact hc)]
   ·rw [yF,if_neg hc]
    by_cases h1:t.k=1
    ·rw [if_pos h1]
     have hn:nameF (false,t::ts)=(t.s,(false,ts)):=by simp [nameF,zx,h1]
     rw [hn];cases hp:yJ k ts with
     | ok us =>
      simp only [XZ,zfX hp]
      rfl
     | error a =>
      obtain ⟨us,hu,ha⟩:=zeB hp;simp only [XZ,hu];exact ⟨rfl,ha⟩
    ·rw [if_neg h1]
     have hn:nameF (false,t::ts)=([],(true,t::ts)):=by simp [nameF,zx,h1]
     rw [hn,V5];exact ⟨rfl,rfl⟩
theorem Q3 (ts:List Tk) (F:Nat) (h:ts.length+1≤F):AgO (yF 0 ts) (xS F (false,ts)):=by
 obtain ⟨q,hq,hA⟩:=qC ts F h;exact ⟨q,hq,by simpa [XU] using hA 0⟩
theorem uC:∀(f:Nat) (pre:List Pm) (ts:List Tk) (r:PR (List Pm)),Zm f pre ts=some r→zj ts→∀F,f+ts.length+2≤F→AgO r (yP F pre (false,ts)):=by
 intro f
 induction f with
 | zero=>intro pre ts r h;simp [Zm] at h
 | succ f ih =>
  intro pre ts r h hE F hF;obtain ⟨G,rfl⟩:∃G,F=G+1:=⟨F-1,by omega⟩
  rw [Zm] at h;rw [yP,if_neg (by simp)]
  unfold YE at h
  by_cases h1:(zx ts).k=1
  ·have hn:nameF (false,ts)=((zx ts).s,(false,ts.tail)):=by simp [nameF,h1]
   have hE1:zj ts.tail:=Yr hE (by omega)
   have hl:ts.tail.length≤ts.length:=by rw [List.length_tail];omega
   rw [if_pos h1] at h;rw [hn]
   by_cases h2:zn (zx ts.tail) [58]=true
   ·rw [if_pos h2] at h
    have hm:mustF [58] (false,ts.tail)=(false,ts.tail.tail):=by simp only [mustF,Z4,h2,if_true]
    have hl2:ts.tail.tail.length≤ts.tail.length:=by rw [List.length_tail];omega
    simp only [hm];obtain ⟨q,hq,hA⟩:=Q3 ts.tail.tail G (by omega)
    rw [hq];cases hs:yF 0 ts.tail.tail with
    | error a =>
     rw [hs] at h hA;obtain ⟨y,us,rfl,ha⟩:=ZM hA;simp only [Option.some.injEq] at h;subst h;simp only [Option.bind_some,x9];exact ⟨_,rfl,rfl,ha⟩
    | ok p =>
     obtain ⟨s,us⟩:=p;rw [hs] at h hA;obtain rfl:=yo hA;obtain ⟨hE3,hl3⟩:=Y0 _ _ _ _ hs (zT hE1 h2);simp only at h;simp only [Option.bind_some,Z4]
     by_cases h3:zn (zx us) [44]=true
     ·rw [if_pos h3] at h ⊢
      exact ih _ _ _ h (zT hE3 h3) G (by rw [List.length_tail];omega)
     ·rw [if_neg h3] at h ⊢
      exact VF h
   ·rw [if_neg h2] at h
    have hm:mustF [58] (false,ts.tail)=(true,ts.tail):=by simp only [mustF,Z4];rw [if_neg h2]
    simp only [hm,zbP _ G (by omega),Option.bind_some,x9]
    simp only [Option.some.injEq] at h;subst h;exact ⟨_,rfl,rfl,rfl⟩
  ·have hn:nameF (false,ts)=([],(true,ts)):=by simp [nameF,h1]
   rw [if_neg h1] at h;rw [hn]
   simp only [Zx,zbP _ G (by omega),Option.bind_some,x9]
   simp only [Option.some.injEq] at h;subst h;exact ⟨_,rfl,rfl,rfl⟩
theorem qD (f:Nat) :
  (∀ts r,ZQ f ts=some r→xt ts→∀F,3*f+12≤F→AgO r (Xu F (false,ts))) ∧
  (∀ts r,zU f ts=some r→xt ts→∀F,3*f+12≤F→AgO r (yK F (false,ts))) ∧
  (∀pre ts r,ZH f pre ts=some r→xt ts→∀F,3*f+12≤F→AgO r (Yv F pre (false,ts))) ∧
  (∀ts x us,ZQ f ts=some (.ok (x,us))→xt ts→xt us)∧(∀ts x us,zU f ts=some (.ok (x,us))→xt ts→xt us)∧(∀pre ts x us,ZH f pre ts=some (.ok (x,us))→xt ts→xt us):=by
 induction f with
 | zero=>refine ⟨?_,?_,?_,?_,?_,?_⟩ <;> intros <;> simp_all [ZQ,zU,ZH]
 | succ f ih =>
  obtain ⟨i1,i2,i3,j1,j2,j3⟩:=ih;have up:∀F,3*(f+1)+12≤F→∃G,F=G+1∧3*f+12≤G∧2*f+10≤G:=fun F h=>⟨F-1,by omega,by omega,by omega⟩
  have ex:∀ts r,zk f 1 ts=some r→xt ts→∀G,2*f+10≤G→AgO r (Z7 G 0 (false,ts)):=fun ts r h hW G hG=>(ziz f).1 0 ts r (by omega) h hW G hG
  have bx:=fun (us:List Tk) (G:Nat) (h:3*f+12≤G)=>ziy us 0 G (by omega) (by omega)
  have px:=fun ts x us h hW=>(xu (P:=WdT) f).1 1 ts x us h hW
  refine ⟨fun ts r h hW F hF=>?_,fun ts r h hW F hF=>?_,fun pre ts r h hW F hF=>?_,fun ts x us h hW=>?_,fun ts x us h hW=>?_,fun pre ts x us h hW=>?_⟩
  ·obtain ⟨G,rfl,hG,hG2⟩:=up F hF
   have bb:=fun (us:List Tk)=>Xv us G (by omega)
   rw [ZQ] at h;rw [Xu];simp only [Z4]
   by_cases c1:zn (zx ts) [108,101,116]=true
   ·rw [if_pos c1] at h ⊢
    rcases Zb h with ⟨a,h1,rfl⟩ | ⟨s,us,h1,h2⟩
    ·obtain ⟨y,us,hq,ha⟩:=ZM (yL h1)
     obtain ⟨e,he⟩:=bx us G hG;simp only [hq,Zx,he,Option.bind_some];exact ⟨_,rfl,rfl,ha⟩
    have hq:=yo (yL h1);have hW1:=yC h1 hW.tail;rcases Zb h2 with ⟨a,h3,rfl⟩ | ⟨_,vs,h3,h4⟩
    ·obtain ⟨hm,ha⟩:=Zg h3
     obtain ⟨e,he⟩:=bx us G hG;simp only [hq,hm,he,Option.bind_some,Zx];exact ⟨_,rfl,rfl,ha⟩
    have hm:=Zg h3;simp only [AgN] at hm;simp only [hq,hm];exact yY h4 (fun r1 h5=>ex _ _ h5 (Zh h3 hW1) G hG2) (fun y us=>⟨_,by simp only [Zx];rfl⟩) fun e xs h5 h6=>Ud h6
   rw [if_neg c1] at h ⊢
   by_cases c2:zn (zx ts) [105,102]=true
   ·rw [if_pos c2] at h ⊢
    refine yY h (fun r1 h1=>ex _ _ h1 hW.tail G hG2) (fun y us=>⟨_,by simp only [bb,Option.bind_some,x9];rfl⟩) fun e us h1 h2=>?_
    have hW1:xt us:=px _ _ _ h1 hW.tail;refine yY h2 (fun r1 h3=>i2 _ _ h3 hW1 G hG) (fun y us=>⟨_,by simp only [x9];rfl⟩) fun b vs h3 h4=>?_
    simp only [Z4]
    by_cases c:zn (zx vs) [101,108,115,101]=true
    ·rw [if_pos c] at h4 ⊢
     exact yY h4 (fun r1 h5=>i2 _ _ h5 (j2 _ _ _ h3 hW1).tail G hG) (fun y us=>⟨_,rfl⟩) fun c xs h5 h6=>VF h6
    ·rw [if_neg c] at h4 ⊢
     exact VF h4
   rw [if_neg c2] at h ⊢
   by_cases c3:zn (zx ts) [119,104,105,108,101]=true
   ·rw [if_pos c3] at h ⊢
    refine yY h (fun r1 h1=>ex _ _ h1 hW.tail G hG2) (fun y us=>⟨_,by simp only [bb,Option.bind_some];rfl⟩) fun e us h1 h2=>?_
    exact yY h2 (fun r1 h3=>i2 _ _ h3 (px _ _ _ h1 hW.tail) G hG) (fun y us=>⟨_,rfl⟩) fun b vs h3 h4=>VF h4
   rw [if_neg c3] at h ⊢
   by_cases c4:zn (zx ts) [114,101,116,117,114,110]=true
   ·rw [if_pos c4] at h ⊢
    by_cases c5:zn (zx ts.tail) [59]=true
    ·rw [if_pos c5] at h ⊢
     exact VF h
    ·rw [if_neg c5] at h ⊢
     exact yY h (fun r1 h1=>ex _ _ h1 hW.tail G hG2) (fun y us=>⟨_,by simp only [Zx];rfl⟩) fun e us h1 h2=>Ud h2
   rw [if_neg c4] at h ⊢;refine yY h (fun r1 h1=>ex _ _ h1 hW G hG2) (fun y us=>⟨_,by simp only [x9,Zx];rfl⟩) fun e us h1 h2=>?_
   simp only [Z4]
   by_cases c5:zn (zx us) [61]=true
   ·rw [if_pos c5] at h2 ⊢
    by_cases c6:YQ e=true
    ·rw [if_pos c6] at h2 ⊢
     exact yY h2 (fun r1 h3=>ex _ _ h3 (xt.tail (px _ _ _ h1 hW)) G hG2) (fun y us=>⟨_,by simp only [Zx];rfl⟩) fun e2 vs h3 h4=>Ud h4
    ·rw [if_neg c6] at h2 ⊢
     obtain ⟨e2,he⟩:=bx us G hG;simp only [Option.some.injEq] at h2;subst h2;simp only [he,Option.bind_some,Zx];exact ⟨_,rfl,rfl,rfl⟩
   ·rw [if_neg c5] at h2 ⊢
    exact Ud h2
  ·obtain ⟨G,rfl,hG,hG2⟩:=up F hF
   rw [zU] at h;rw [yK];rcases Zb h with ⟨a,h3,rfl⟩ | ⟨_,vs,h3,h4⟩
   ·obtain ⟨hm,ha⟩:=Zg h3
    rw [hm,V4 _ G (by omega)]
    exact ⟨_,rfl,rfl,ha⟩
   ·have hm:=Zg h3
    simp only [AgN] at hm;rw [hm];exact i3 _ _ _ h4 (Zh h3 hW) G hG
  ·obtain ⟨G,rfl,hG,hG2⟩:=up F hF
   rw [ZH] at h;rw [Yv,if_neg (by simp)]
   simp only [Z4]
   by_cases c:zn (zx ts) [125]=true
   ·rw [if_pos c] at h ⊢
    exact VF h
   ·rw [if_neg c] at h ⊢
    exact yY h (fun r1 h1=>i1 _ _ h1 hW G hG) (fun y us=>⟨_,V4 us G (by omega) _⟩) fun y us h1 h2=>i3 _ _ _ h2 (j1 _ _ _ h1 hW) G hG
  ·rw [ZQ] at h
   split at h
   ·obtain ⟨_,_,h1,h⟩:=zb h
    obtain ⟨_,_,h2,h⟩:=zb h;obtain ⟨_,_,h3,h⟩:=zb h;obtain ⟨_,_,h4,h⟩:=zb h;obtain ⟨rfl,rfl⟩:=zt h;exact Zh h4 (px _ _ _ h3 (Zh h2 (yC h1 hW.tail)))
   split at h
   ·obtain ⟨_,_,h1,h⟩:=zb h
    obtain ⟨_,_,h2,h⟩:=zb h;have hB:=j2 _ _ _ h2 (px _ _ _ h1 hW.tail)
    split at h
    ·obtain ⟨_,_,h3,h⟩:=zb h
     obtain ⟨rfl,rfl⟩:=zt h;exact j2 _ _ _ h3 hB.tail
    ·obtain ⟨rfl,rfl⟩:=zt h
     exact hB
   split at h
   ·obtain ⟨_,_,h1,h⟩:=zb h
    obtain ⟨_,_,h2,h⟩:=zb h;obtain ⟨rfl,rfl⟩:=zt h;exact j2 _ _ _ h2 (px _ _ _ h1 hW.tail)
   split at h
   ·split at h
    ·obtain ⟨rfl,rfl⟩:=zt h
     exact hW.tail.tail
    ·obtain ⟨_,_,h1,h⟩:=zb h
     obtain ⟨_,_,h2,h⟩:=zb h;obtain ⟨rfl,rfl⟩:=zt h;exact Zh h2 (px _ _ _ h1 hW.tail)
   ·obtain ⟨_,_,h1,h⟩:=zb h
    have hB:=px _ _ _ h1 hW
    split at h
    ·split at h
     ·obtain ⟨_,_,h2,h⟩:=zb h
      obtain ⟨_,_,h3,h⟩:=zb h;obtain ⟨rfl,rfl⟩:=zt h;exact Zh h3 (px _ _ _ h2 (zy hB))
     ·cases h
    ·obtain ⟨_,_,h2,h⟩:=zb h
     obtain ⟨rfl,rfl⟩:=zt h;exact Zh h2 hB
  ·rw [zU] at h
   obtain ⟨_,_,h1,h⟩:=zb h;exact j3 _ _ _ _ h (Zh h1 hW)
  ·rw [ZH] at h
   split at h
   ·obtain ⟨rfl,rfl⟩:=zt h
    exact hW.tail
   ·obtain ⟨_,_,h1,h⟩:=zb h
    exact j3 _ _ _ _ h (j1 _ _ _ h1 hW)
def Uy (f:Nat) (σ:RS):Option (List Pm × RS):=(if zO [41] (mustF [40] σ)=true then some ([],mustF [40] σ) else yP f [] (mustF [40] σ)).bind fun l=>some (l.1,mustF [41] l.2)
def zaH (f:Nat) (σ:RS):Option (List UInt8 × RS):=if zO [58] σ=true then xS f (false,σ.2.tail) else some ([],σ)
def VG (f line:Nat) (σ:RS):Option (Fc × RS):=(Uy f (nameF σ).2).bind fun l=>(zaH f l.2).bind fun t=>(yK f t.2).bind fun b=>some (⟨(nameF σ).1,l.1,t.1,b.1,line⟩,b.2)
def Vl (f line:Nat) (σ:RS):Option (Rc × RS):=(yP f [] (mustF [123] (nameF σ).2)).bind fun l=>some (⟨(nameF σ).1,l.1,line⟩,mustF [125] l.2)
def XI:Nat→List Rc→List Fc→RS→Option (Pg × RS)
 | 0,_,_,_=>none
 | f+1,rs,fs,σ =>
  if σ.1=true∨(zx σ.2).k=0 then some (⟨rs,fs⟩,σ)
  else if zO [114,101,99,111,114,100] σ=true then (Vl f (zx σ.2).line (false,σ.2.tail)).bind fun x=>XI f (rs++[x.1]) fs x.2
  else (VG f (zx σ.2).line (mustF [102,110] σ)).bind fun x=>XI f rs (fs++[x.1]) x.2
theorem Q4 (ts:List Tk) (F:Nat) (h:1≤F):Uy F (true,ts)=some ([],(true,ts)):=by
 unfold Uy
 simp only [Zx,x9,XH ts F h]
 simp [Zx]
theorem qE (ts:List Tk) (F:Nat):zaH F (true,ts)=some ([],(true,ts)):=by
 unfold zaH
 rw [if_neg (by simp [zO])]
theorem Q5 (ts:List Tk) (F line:Nat) (h:2≤F):VG F line (true,ts)=some (⟨[],[],[],[],line⟩,(true,ts)):=by
 unfold VG
 simp only [Q0,Q4 ts F (by omega),qE,Xv ts F h,Option.bind_some]
theorem Ue (ts:List Tk) (F:Nat) (h:1≤F) (rs:List Rc) (fs:List Fc):XI F rs fs (true,ts)=some (⟨rs,fs⟩,(true,ts)):=by
 obtain ⟨G,rfl⟩:∃G,F=G+1:=⟨F-1,by omega⟩
 rw [XI,if_pos (.inl rfl)]
theorem zc1 {f:Nat} {ts:List Tk} {r:PR (List Pm)} (h:Y9 f ts=some r) (hE:zj ts) (F:Nat) (hF:f+ts.length+2≤F):AgO r (Uy F (false,ts)):=by
 unfold Y9 at h
 unfold Uy
 rcases Zb h with ⟨a,h3,rfl⟩ | ⟨_,vs,h3,h4⟩
 ·obtain ⟨hm,ha⟩:=Zg h3
  rw [hm,if_neg (by simp [zO]),XH _ F (by omega)]
  simp only [Option.bind_some,Zx];exact ⟨_,rfl,rfl,ha⟩
 ·have hm:=Zg h3
  have hE1:=Zt h3 hE;have l1:=z7 h3;simp only [AgN] at hm;rw [hm,Z4]
  by_cases c:zn (zx vs) [41]=true
  ·rw [if_pos c] at h4 ⊢
   simp only [Option.bind_some,show mustF [41] (false,vs)=(false,vs.tail) by simp only [mustF,Z4,c,if_true]]
   exact VF h4
  ·rw [if_neg c] at h4 ⊢
   exact yY h4 (fun r1 h5=>uC f [] vs r1 h5 hE1 F (by omega)) (fun y us=>⟨_,by simp only [Zx];rfl⟩) fun l us h5 h6=>Ud h6
theorem zeC {ts:List Tk} {r:PR (List UInt8)} (h:vY ts=some r) (F:Nat) (hF:ts.length+1≤F):AgO r (zaH F (false,ts)):=by
 unfold vY at h
 unfold zaH
 rw [Z4]
 by_cases c:zn (zx ts) [58]=true
 ·rw [if_pos c] at h ⊢
  simp only [Option.some.injEq] at h;subst h;exact Q3 ts.tail F (by have:=Zw ts;omega)
 ·rw [if_neg c] at h ⊢
  exact VF h
theorem zeD {P:Tk→Prop} {n:Nat}:∀{ts us:List Tk},yJ n ts=.ok us→(∀t∈ts,P t)→∀t∈us,P t:=by
 induction n with
 | zero=>intro ts us h hP;cases h;exact hP
 | succ n ih =>
  intro ts us h hP;rw [yJ] at h
  split at h
  ·exact ih h (zy hP)
  ·cases h
theorem uD {P:Tk→Prop}:∀(ts:List Tk) (k:Nat) (s:List UInt8) (us:List Tk),yF k ts=.ok (s,us)→(∀t∈ts,P t)→∀t∈us,P t
 | [],k,s,us,h,hP=>by simp [yF] at h
 | t::ts,k,s,us,h,hP=>by
  rw [yF] at h
  split at h
  ·exact uD ts (k+1) s us h fun x hx=>hP x (List.mem_cons_of_mem _ hx)
  ·split at h
   ·cases hc:yJ k ts with
    | error a=>rw [hc] at h;simp [XZ] at h
    | ok vs =>
     rw [hc] at h;simp only [XZ,Except.ok.injEq,Prod.mk.injEq] at h;obtain ⟨-,rfl⟩:=h;exact zeD hc fun x hx=>hP x (List.mem_cons_of_mem _ hx)
   ·cases h
theorem qF {P:Tk→Prop}:∀(f:Nat) (pre l:List Pm) (ts us:List Tk),Zm f pre ts=some (.ok (l,us))→(∀t∈ts,P t)→∀t∈us,P t:=by
 intro f
 induction f with
 | zero=>intro pre l ts us h;simp [Zm] at h
 | succ f ih =>
  intro pre l ts us h hP;rw [Zm] at h
  unfold YE at h
  by_cases h1:(zx ts).k=1
  ·rw [if_pos h1] at h
   by_cases h2:zn (zx ts.tail) [58]=true
   ·rw [if_pos h2] at h
    cases hs:yF 0 ts.tail.tail with
    | error a=>rw [hs] at h;simp at h
    | ok p =>
     obtain ⟨s,vs⟩:=p;rw [hs] at h;have hV:=uD _ _ _ _ hs (zy (zy hP));simp only at h
     split at h
     ·exact ih _ _ _ _ h (zy hV)
     ·obtain ⟨-,rfl⟩:=zt h
      exact hV
   ·rw [if_neg h2] at h
    simp at h
  ·rw [if_neg h1] at h
   simp at h
theorem uE {P:Tk→Prop} {f:Nat} {ts us:List Tk} {l:List Pm} (h:Y9 f ts=some (.ok (l,us))) (hP:∀t∈ts,P t):∀t∈us,P t:=by
 unfold Y9 at h
 obtain ⟨_,us1,h1,h⟩:=zb h;have hP1:=Zh h1 hP
 split at h
 ·obtain ⟨rfl,rfl⟩:=zt h
  exact zy hP1
 ·obtain ⟨_,us2,h2,h⟩:=zb h
  obtain ⟨_,us3,h3,h⟩:=zb h;obtain ⟨rfl,rfl⟩:=zt h;exact Zh h3 (qF _ _ _ _ _ h2 hP1)
theorem UO {P:Tk→Prop} {ts us:List Tk} {s:List UInt8} (h:vY ts=some (.ok (s,us))) (hP:∀t∈ts,P t):∀t∈us,P t:=by
 unfold vY at h
 split at h
 ·exact uD _ _ _ _ (Option.some.inj h) (zy hP)
 ·obtain ⟨rfl,rfl⟩:=zt h
  exact hP
theorem zc2 {f line:Nat} {ts:List Tk} {r:PR Fc} (h:yX f line ts=some r) (hE:zj ts) (hW:xt ts) (F:Nat) (hF:3*f+ts.length+12≤F):AgO r (VG F line (false,ts)):=by
 unfold yX at h
 unfold VG
 rcases Zb h with ⟨a,h1,rfl⟩ | ⟨s,us,h1,h2⟩
 ·obtain ⟨y,us,hq,ha⟩:=ZM (yL h1)
  simp only [hq,Q4 us F (by omega),qE,Xv us F (by omega),Option.bind_some]
  exact ⟨_,rfl,rfl,ha⟩
 have hq:=yo (yL h1);have hE1:=yM h1 hE;have l1:=yU h1;have hW1:xt us:=yC h1 hW;simp only [hq];refine yY h2 (fun r1 h3=>zc1 h3 hE1 F (by omega)) (fun y vs=>⟨_,by simp only [qE,Xv vs F (by omega),Option.bind_some];rfl⟩) fun l vs h3 h4=>?_
 have hE2:=Xp h3 hE1;have l2:=Vj h3 hE1;refine yY h4 (fun r1 h5=>zeC h5 F (by omega)) (fun y xs=>⟨_,by simp only [Xv xs F (by omega),Option.bind_some];rfl⟩) fun t xs h5 h6=>?_
 exact yY h6 (fun r1 h7=>(qD f).2.1 _ _ h7 (UO h5 (uE h3 hW1)) F (by omega)) (fun y zs=>⟨_,rfl⟩) fun b zs h7 h8=>VF h8
theorem zaI {f line:Nat} {ts:List Tk} {r:PR Rc} (h:ZZ f line ts=some r) (hE:zj ts) (F:Nat) (hF:f+ts.length+2≤F):AgO r (Vl F line (false,ts)):=by
 unfold ZZ at h
 unfold Vl
 rcases Zb h with ⟨a,h1,rfl⟩ | ⟨s,us,h1,h2⟩
 ·obtain ⟨y,us,hq,ha⟩:=ZM (yL h1)
  simp only [hq,Zx,XH us F (by omega),Option.bind_some]
  exact ⟨_,rfl,rfl,ha⟩
 have hq:=yo (yL h1);have hE1:=yM h1 hE;have l1:=yU h1;simp only [hq];rcases Zb h2 with ⟨a,h3,rfl⟩ | ⟨_,vs,h3,h4⟩
 ·obtain ⟨hm,ha⟩:=Zg h3
  rw [hm,XH _ F (by omega)]
  simp only [Option.bind_some,Zx];exact ⟨_,rfl,rfl,ha⟩
 have hm:=Zg h3;have hE2:=Zt h3 hE1;have l2:=z7 h3;simp only [AgN] at hm;rw [hm];exact yY h4 (fun r1 h5=>uC f [] vs r1 h5 hE2 F (by omega)) (fun y us=>⟨_,by simp only [Zx];rfl⟩) fun l us h5 h6=>Ud h6
theorem qG {P:Tk→Prop} {f line:Nat} {ts us:List Tk} {x:Rc} (h:ZZ f line ts=some (.ok (x,us))) (hP:∀t∈ts,P t):∀t∈us,P t:=by
 unfold ZZ at h
 obtain ⟨_,_,h1,h⟩:=zb h;obtain ⟨_,_,h2,h⟩:=zb h;obtain ⟨_,_,h3,h⟩:=zb h;obtain ⟨_,_,h4,h⟩:=zb h;obtain ⟨rfl,rfl⟩:=zt h;exact Zh h4 (qF _ _ _ _ _ h3 (Zh h2 (yC h1 hP)))
theorem zfY {f line:Nat} {ts us:List Tk} {x:Fc} (h:yX f line ts=some (.ok (x,us))) (hW:xt ts):xt us:=by
 unfold yX at h
 obtain ⟨_,_,h1,h⟩:=zb h;obtain ⟨_,_,h2,h⟩:=zb h;obtain ⟨_,_,h3,h⟩:=zb h;obtain ⟨_,_,h4,h⟩:=zb h;obtain ⟨rfl,rfl⟩:=zt h;exact (qD f).2.2.2.2.1 _ _ _ h4 (UO h3 (uE h2 (yC h1 hW)))
theorem V6:∀(f:Nat) (rs:List Rc) (fs:List Fc) (ts:List Tk) (r:PR Pg),ZR f rs fs ts=some r→zj ts→xt ts→∀F,3*f+ts.length+12≤F→AgO r (XI F rs fs (false,ts))
 | 0,_,_,_,_,h,_,_,_,_=>by simp [ZR] at h
 | f+1,rs,fs,ts,r,h,hE,hW,F,hF=>by
  obtain ⟨G,rfl⟩:∃G,F=G+1:=⟨F-1,by omega⟩
  rw [ZR] at h;rw [XI]
  by_cases c0:(zx ts).k=0
  ·rw [if_pos c0] at h
   rw [if_pos (.inr c0)];exact VF h
  rw [if_neg c0] at h;rw [if_neg (by simp [c0])]
  simp only [Z4]
  by_cases c1:zn (zx ts) [114,101,99,111,114,100]=true
  ·rw [if_pos c1] at h ⊢
   have hE1:=zT hE c1;have l1:=Zq c1;refine yY h (fun r1 h1=>zaI h1 hE1 G (by omega)) (fun y us=>⟨_,Ue us G (by omega) _ _⟩) fun y us h1 h2=>?_
   have l2:=XE h1 hE1;exact V6 f _ _ _ _ h2 (xr h1 hE1) (qG h1 hW.tail) G (by omega)
  rw [if_neg c1] at h ⊢
  by_cases c2:zn (zx ts) [102,110]=true
  ·rw [if_pos c2] at h
   have hE1:=zT hE c2;have l1:=Zq c2;rw [show mustF [102,110] (false,ts)=(false,ts.tail) by simp only [mustF,Z4,c2,if_true]]
   refine yY h (fun r1 h1=>zc2 h1 hE1 hW.tail G (by omega)) (fun y us=>⟨_,Ue us G (by omega) _ _⟩) fun y us h1 h2=>?_
   have l2:=qB h1 hE1;exact V6 f _ _ _ _ h2 (Xq h1 hE1) (zfY h1 hW.tail) G (by omega)
  ·rw [if_neg c2] at h
   rw [show mustF [102,110] (false,ts)=(true,ts) by simp only [mustF,Z4];rw [if_neg c2]]
   simp only [Q5 ts G _ (by omega),Option.bind_some,Ue ts G (by omega)]
   simp only [Option.some.injEq] at h;subst h;exact ⟨_,rfl,rfl,rfl⟩
def Zo (r g:Nat) (w:World) (q:Ex × RS) (e:Ending) (w':World):Prop:=zc r w w'∧∃v,e=.returned v∧ZO w.heap.size w' q.1 v∧zz r g q.2 w'
def V7 (r g:Nat) (w:World) (q:List Ex × RS) (e:Ending) (w':World):Prop:=zc r w w'∧∃v,e=.returned v∧yQ w.heap.size w' q.1 v∧zz r g q.2 w'
theorem Zo.of_set5 {r g N B:Nat} {w w5:World} {σ:RS} {l:List Ex} {v:Value} (k:Nat) (s:List UInt8) (n:Int) (line:Nat) (hK:zc r w w5) (hN:w.heap.size≤N) (hr:r<w.heap.size) (hg:g<w.heap.size) (hrow:yQ B w5 l v) (hB:N<B) (hrd:zz r g σ w5) :
  Zo r g w (.mk k s n l line,σ) (.returned (.agg #[.int .i64 k,.string (za s),.int .i64 n,v,.int .i64 line])) (set5 w5 N (.int .i64 k) (.string (za s)) (.int .i64 n) v (.int .i64 line)):=by
 refine ⟨yq hK hN _ _ _ _ _,_,rfl,?_,hrd.keep (zw _ _ _ _ _ _ _ (by omega)) (zw _ _ _ _ _ _ _ (by omega))⟩
 have h:=hrow.kept (w':=set5 w5 N (.int .i64 k) (.string (za s)) (.int .i64 n) v (.int .i64 line)) (by simp) fun k hB _=>zw _ _ _ _ _ _ _ (by omega)
 exact ZO.of_row (h.mono (by omega)) k s n line
theorem Zo.of_set5' {r g N B:Nat} {w w5:World} {σ:RS} {x:Ex} {a b c d e:Value} (hK:zc r w w5) (hN:w.heap.size≤N) (hr:r<w.heap.size) (hg:g<w.heap.size) (hx:ZO B w5 x (.agg #[a,b,c,d,e])) (hB:N<B) (hrd:zz r g σ w5) :
  Zo r g w (x,σ) (.returned (.agg #[a,b,c,d,e])) (set5 w5 N a b c d e):=by
 refine ⟨yq hK hN _ _ _ _ _,_,rfl,?_,hrd.keep (zw _ _ _ _ _ _ _ (by omega)) (zw _ _ _ _ _ _ _ (by omega))⟩
 exact ZO.mono (ZO.kept hx (w':=set5 w5 N a b c d e) (by simp) fun k hB _=>zw _ _ _ _ _ _ _ (by omega)) (by omega)
structure Yp (r g N:Nat) (w:World) (e:Ex) (σ:RS) (a:Int) (b:ByteArray) (c:Int) (d0:Option Addr) (d1 d2:Nat) (l:Int) (wr:World):Prop where
 blk:wr.heap[N]?=some (.cells #[.int .i64 a,.string b,.int .i64 c,.slice d0 d1 d2,.int .i64 l] 45 (0,0))
 ex:zY (fun k=>w.heap.size<k∧k≠N) wr e (.agg #[.int .i64 a,.string b,.int .i64 c,.slice d0 d1 d2,.int .i64 l])
 rd:zz r g σ wr
 kept:zc r w wr
 res:wr.heap[w.heap.size]?=some ZA
def v7 (r g N F:Nat) (w:World) (res:Ex × RS) (p:Nat→Ex→RS→Option (Ex × RS)) (wr:World):Prop :=
 ∃e σ f a b c d0 d1 d2 l,f≤F∧p f e σ=some res∧Yp r g N w e σ a b c d0 d1 d2 l wr
theorem Yp.leave {r g N:Nat} {w wr W:World} {e:Ex} {σ σ':RS} {a:Int} {b:ByteArray} {c:Int} {d0:Option Addr} {d1 d2:Nat} {l:Int} (h:Yp r g N w e σ a b c d0 d1 d2 l wr) (hr:r<w.heap.size) (hg:g<w.heap.size) (hNw:w.heap.size<N) (hK:zc r wr W) (hrd:zz r g σ' W) :
  W.heap[N]?=some (.cells #[.int .i64 a,.string b,.int .i64 c,.slice d0 d1 d2,.int .i64 l] 45 (0,0))∧W.heap[w.heap.size]?=some ZA ∧
  Zo r g w (e,σ') (.returned (.agg #[.int .i64 a,.string b,.int .i64 c,.slice d0 d1 d2,.int .i64 l])) (set5 W w.heap.size (.int .i64 a) (.string b) (.int .i64 c) (.slice d0 d1 d2) (.int .i64 l)):=by
 refine ⟨(hK.block _ (Array.getElem?_eq_some_iff.1 h.blk).1 (by omega)).trans h.blk,(hK.block _ (Array.getElem?_eq_some_iff.1 h.res).1 (by omega)).trans h.res,?_⟩
 refine Zo.of_set5' (B:=w.heap.size+1) (h.kept.trans hK) (Nat.le_refl _) hr hg ?_ (Nat.lt_succ_self _) hrd;exact zY.wide (zY.kept h.ex hK.size fun k hk' hlt=>hK.block k hlt (by omega)) fun k hk'=>hk'.1
theorem Yp.start {r g:Nat} {w w0 w1:World} {x:Ex} {σ:RS} {a:Int} {b:ByteArray} {c:Int} {d0:Option Addr} {d1 d2:Nat} {l:Int} (hsz:w.heap.size<w0.heap.size) (hz:w0.heap[w.heap.size]?=some ZA) (hk0:zc r w w0) (hr:r<w.heap.size) (hk:zc r w0 w1)
  (hx:ZO w0.heap.size w1 x (.agg #[.int .i64 a,.string b,.int .i64 c,.slice d0 d1 d2,.int .i64 l])) (hrd:zz r g σ w1) :
  Yp r g w1.heap.size w x σ a b c d0 d1 d2 l (w1.alloc (.cells #[.int .i64 a,.string b,.int .i64 c,.slice d0 d1 d2,.int .i64 l] 45)) where
 blk:=World.alloc_heap_new _ _
 ex:=zY.wide (zY.kept (zY.low hx) (by simp) fun k hk _=>Below.heap_alloc _ _ _ hk.2) fun k hk=>⟨by omega,by omega⟩
 rd:=hrd.alloc _
 kept:=(hk0.trans hk).alloc _
 res:=by
  have:=hk.size
  rw [Below.heap_alloc _ _ _ (by omega),hk.block _ (by omega) (by omega)];exact hz
theorem Yp.moved {r g N:Nat} {w wr W:World} {e:Ex} {σ σ':RS} {a:Int} {b:ByteArray} {c:Int} {d0:Option Addr} {d1 d2:Nat} {l:Int} (h:Yp r g N w e σ a b c d0 d1 d2 l wr) (hr:r<w.heap.size) (hNw:w.heap.size<N) (hK:zc r wr W) (hrd:zz r g σ' W):Yp r g N w e σ' a b c d0 d1 d2 l W where
 blk:=(hK.block _ (Array.getElem?_eq_some_iff.1 h.blk).1 (by omega)).trans h.blk
 ex:=zY.kept h.ex hK.size fun k hk' hlt=>hK.block k hlt (by omega)
 rd:=hrd
 kept:=h.kept.trans hK
 res:=(hK.block _ (Array.getElem?_eq_some_iff.1 h.res).1 (by omega)).trans h.res
theorem Yp.two {r g N:Nat} {w wr wE w7:World} {e x:Ex} {σ σ7:RS} {a2:Int} {b2:ByteArray} {c2:Int} {p2:Option Addr} {q2 s2:Nat} {l2:Int} {a3:Int} {b3:ByteArray} {c3:Int} {u0:Option Addr} {u1 u2:Nat} {l3:Int}
  (k:Nat) (s:List UInt8) (h:Yp r g N w e σ a2 b2 c2 p2 q2 s2 l2 wr) (hr:r<w.heap.size) (hg:g<w.heap.size) (hNw:w.heap.size<N) (hkE:zc r wr wE) (hk7:zc r wE w7)
  (hx7:ZO wE.heap.size w7 x (.agg #[.int .i64 a3,.string b3,.int .i64 c3,.slice u0 u1 u2,.int .i64 l3])) (hrd:zz r g σ7 w7) (kv:Value) (hkv:kv=.int .i64 k) (W:World)
  (hW:W=(set5 w7 N kv (.string (za s)) (.int .i64 0) (.slice (some ⟨w7.heap.size,0,none⟩) 2 2) (.int .i64 l2)).alloc (.cells #[.int .i64 a2,.string b2,.int .i64 c2,.slice p2 q2 s2,.int .i64 l2,.int .i64 a3,.string b3,.int .i64 c3,.slice u0 u1 u2,.int .i64 l3] 45)) :
  Yp r g N w (.mk k s 0 [e,x] e.line) σ7 k (za s) 0 (some ⟨w7.heap.size,0,none⟩) 2 2 (e.line:Int) W:=by
 obtain rfl:l2=(e.line:Int):=h.ex.line_eq;have h7:=h.moved hr hNw (hkE.trans hk7) hrd;have hN7:=(Array.getElem?_eq_some_iff.1 h7.blk).1;rw [←vB _ _ _ _ _ _ hN7] at hW;subst hkv;have hs7:=hk7.size;have hsE:=hkE.size;have hNr:=(Array.getElem?_eq_some_iff.1 h.blk).1;have hz7:=(Array.getElem?_eq_some_iff.1 h7.res).1;have hrow:=zv.two 45 (c:=[.int .i64 a2,.string b2,.int .i64 c2,.slice p2 q2 s2,.int .i64 (e.line:Int)]) (d:=[.int .i64 a3,.string b3,.int .i64 c3,.slice u0 u1 u2,.int .i64 l3]) h7.ex (zY.wide hx7 fun k hk'=>⟨by omega,by omega⟩) rfl rfl ⟨by omega,by omega⟩
 simp only [List.cons_append,List.nil_append] at hrow;obtain ⟨ob,hob⟩:∃ob:Obj,ob=.cells #[.int .i64 a2,.string b2,.int .i64 c2,.slice p2 q2 s2,.int .i64 (e.line:Int),.int .i64 a3,.string b3,.int .i64 c3,.slice u0 u1 u2,.int .i64 l3] 45:=⟨_,rfl⟩;rw [←hob] at hW;have hrow':zv (fun k=>w.heap.size<k∧k≠N) (w7.alloc ob) [e,x] (.slice (some ⟨w7.heap.size,0,none⟩) 2 2):=by rw [hob];exact hrow
 have hs8:(w7.alloc ob).heap.size=w7.heap.size+1:=by simp
 subst hW;refine ⟨YZ ((Below.heap_alloc _ _ _ hN7).trans h7.blk) _ _ _ _ _,?_,(hrd.alloc ob).keep (zw _ _ _ _ _ _ _ (by omega)) (zw _ _ _ _ _ _ _ (by omega)),yq (h7.kept.alloc _) (by omega) _ _ _ _ _,?_⟩
 ·exact zY.of_row (hrow'.kept (w':=set5 (w7.alloc ob) N (.int .i64 k) (.string (za s)) (.int .i64 0) (.slice (some ⟨w7.heap.size,0,none⟩) 2 2) (.int .i64 (e.line:Int))) (by simp) fun k hk _=>zw _ _ _ _ _ _ _ hk.2) k s 0 e.line
 ·rw [zw _ _ _ _ _ _ _ (by omega),Below.heap_alloc _ _ _ hz7];exact h7.res
theorem Yp.one {r g N:Nat} {w wr w7:World} {e:Ex} {σ σ7:RS} {a2:Int} {b2:ByteArray} {c2:Int} {p2:Option Addr} {q2 s2:Nat} {l2:Int}
  (k:Nat) (s:List UInt8) (h:Yp r g N w e σ a2 b2 c2 p2 q2 s2 l2 wr) (hr:r<w.heap.size) (hg:g<w.heap.size) (hNw:w.heap.size<N) (hk7:zc r wr w7) (hrd:zz r g σ7 w7) (kv:Value) (hkv:kv=.int .i64 k) (W:World)
  (hW:W=(set5 w7 N kv (.string (za s)) (.int .i64 0) (.slice (some ⟨w7.heap.size,0,none⟩) 1 1) (.int .i64 l2)).alloc (.cells #[.int .i64 a2,.string b2,.int .i64 c2,.slice p2 q2 s2,.int .i64 l2] 45)) :
  Yp r g N w (.mk k s 0 [e] e.line) σ7 k (za s) 0 (some ⟨w7.heap.size,0,none⟩) 1 1 (e.line:Int) W:=by
 obtain rfl:l2=(e.line:Int):=h.ex.line_eq;have h7:=h.moved hr hNw hk7 hrd;have hN7:=(Array.getElem?_eq_some_iff.1 h7.blk).1;rw [←vB _ _ _ _ _ _ hN7] at hW;subst hkv;have hs7:=hk7.size;have hNr:=(Array.getElem?_eq_some_iff.1 h.blk).1;have hz7:=(Array.getElem?_eq_some_iff.1 h7.res).1;have hrow:=zv.one 45 (c:=[.int .i64 a2,.string b2,.int .i64 c2,.slice p2 q2 s2,.int .i64 (e.line:Int)]) h7.ex rfl ⟨by omega,by omega⟩
 obtain ⟨ob,hob⟩:∃ob:Obj,ob=.cells #[.int .i64 a2,.string b2,.int .i64 c2,.slice p2 q2 s2,.int .i64 (e.line:Int)] 45:=⟨_,rfl⟩;rw [←hob] at hW;have hrow':zv (fun k=>w.heap.size<k∧k≠N) (w7.alloc ob) [e] (.slice (some ⟨w7.heap.size,0,none⟩) 1 1):=by rw [hob];exact hrow
 have hs8:(w7.alloc ob).heap.size=w7.heap.size+1:=by simp
 subst hW;refine ⟨YZ ((Below.heap_alloc _ _ _ hN7).trans h7.blk) _ _ _ _ _,?_,(hrd.alloc ob).keep (zw _ _ _ _ _ _ _ (by omega)) (zw _ _ _ _ _ _ _ (by omega)),yq (h7.kept.alloc _) (by omega) _ _ _ _ _,?_⟩
 ·exact zY.of_row (hrow'.kept (w':=set5 (w7.alloc ob) N (.int .i64 k) (.string (za s)) (.int .i64 0) (.slice (some ⟨w7.heap.size,0,none⟩) 1 1) (.int .i64 (e.line:Int))) (by simp) fun k hk _=>zw _ _ _ _ _ _ _ hk.2) k s 0 e.line
 ·rw [zw _ _ _ _ _ _ _ (by omega),Below.heap_alloc _ _ _ hz7];exact h7.res
theorem Yp.one' {r g N:Nat} {w wr w7:World} {e:Ex} {σ σ7:RS} {a2:Int} {b2:ByteArray} {c2:Int} {p2:Option Addr} {q2 s2:Nat} {l2:Int} (wE:World)
  (k:Nat) (s:List UInt8) (h:Yp r g N w e σ a2 b2 c2 p2 q2 s2 l2 wr) (hr:r<w.heap.size) (hg:g<w.heap.size) (hNw:w.heap.size<N) (hkE:zc r wr wE)
  (hk7:zc r (wE.alloc (.cells #[.int .i64 a2,.string b2,.int .i64 c2,.slice p2 q2 s2,.int .i64 l2] 45)) w7) (hrd:zz r g σ7 w7) (kv:Value) (hkv:kv=.int .i64 k) (W:World)
  (hW:W=set5 w7 N kv (.string (za s)) (.int .i64 0) (.slice (some ⟨wE.heap.size,0,none⟩) 1 1) (.int .i64 l2)) :
  Yp r g N w (.mk k s 0 [e] e.line) σ7 k (za s) 0 (some ⟨wE.heap.size,0,none⟩) 1 1 (e.line:Int) W:=by
 obtain rfl:l2=(e.line:Int):=h.ex.line_eq;subst hkv;have hs7:=hk7.size;have hsE:=hkE.size;simp only [World.size_alloc] at hs7;have hNr:=(Array.getElem?_eq_some_iff.1 h.blk).1;have hzr:=(Array.getElem?_eq_some_iff.1 h.res).1;have hkr7:zc r wr w7:=(hkE.alloc _).trans hk7;have h7:=h.moved hr hNw hkr7 hrd;have hxe:=zY.kept h.ex hkE.size fun k hk' hlt=>hkE.block k hlt (by omega)
 have hrow:=zv.one 45 (c:=[.int .i64 a2,.string b2,.int .i64 c2,.slice p2 q2 s2,.int .i64 (e.line:Int)]) hxe rfl ⟨by omega,by omega⟩
 have hrow7:=hrow.kept hk7.size fun k hk' hlt=>hk7.block k hlt (by omega)
 subst hW;refine ⟨YZ h7.blk _ _ _ _ _,?_,hrd.keep (zw _ _ _ _ _ _ _ (by omega)) (zw _ _ _ _ _ _ _ (by omega)),yq h7.kept (by omega) _ _ _ _ _,?_⟩
 ·exact zY.of_row (hrow7.kept (w':=set5 w7 N (.int .i64 k) (.string (za s)) (.int .i64 0) (.slice (some ⟨wE.heap.size,0,none⟩) 1 1) (.int .i64 (e.line:Int))) (by simp) fun k hk _=>zw _ _ _ _ _ _ _ hk.2) k s 0 e.line
 ·rw [zw _ _ _ _ _ _ _ (by omega)];exact h7.res
theorem Qr (s:List UInt8):(⟨#[91]⟩:ByteArray)++za s++⟨#[93]⟩=za (91::(s++[93])):=by
 apply ByteArray.ext
 rw [ByteArray.data_append,ByteArray.data_append]
 unfold za
 apply Array.ext'
 simp
theorem zbQ {M:Nat}:∀(F:Nat) (σ:RS) (q:List UInt8 × RS),xS F σ=some q→(∀t∈σ.2,t.s.length≤M)→q.1.length≤M+2*σ.2.length
 | 0,σ,q,hq,_=>by simp [xS] at hq
 | F+1,σ,q,hq,hM=>by
  rw [xS] at hq
  split at hq
  ·rename_i hc
   obtain ⟨y,h1,h2⟩:=Option.bind_eq_some_iff.1 hq;obtain rfl:=Option.some.inj h2;have h3:=zbQ F _ _ h1 (zy hM);have h4:=Zq (Yo hc).2.1;simp only [List.length_append,List.length_cons,List.length_nil] at h3 ⊢;omega
  ·obtain rfl:=Option.some.inj hq
   unfold nameF
   split
   ·cases h:σ.2 with
    | nil=>simp [zx]
    | cons t ts =>
     have:=hM t (by rw [h];exact List.mem_cons_self ..)
     simp only [zx];omega
   ·simp
theorem zdK (r g:Nat):∀(F:Nat) (σ:RS) (w:World) (q:List UInt8 × RS),zz r g σ w→xS F σ=some q→(∀t∈σ.2,t.s.length≤1099511627776) →
  Calls Tryz.prog 64 #[.pointer (some ⟨r,0,none⟩)] w fun e w'=>e=.returned (.string (za q.1))∧zc r w w'∧zz r g q.2 w'
 | 0,σ,w,q,h,hq,_=>by simp [xS] at hq
 | F+1,σ,w,q,h,hq,hM=>by
  rw [xS] at hq;have ct:=Zd r g σ [91] w h
  by_cases hc:zO [91] σ=true
  ·rw [if_pos hc] at hq
   obtain ⟨y,h1,h2⟩:=Option.bind_eq_some_iff.1 hq;obtain rfl:=Option.some.inj h2;obtain ⟨s,σ2⟩:=y;have HR:Hid (∀W,zz r g (false,σ.2.tail) W→Calls Tryz.prog 64 #[.pointer (some ⟨r,0,none⟩)] W fun e w'=>e=.returned (.string (za s))∧zc r W w'∧zz r g σ2 w'):=fun W hW=>zdK r g F _ W _ hW h1 (zy hM)
   have hl:=zbQ F _ _ h1 (zy hM);have hf:=h.few
   have hls:s.length≤8796093022208:=by
    have:=Zw σ.2
    simp only at hl;omega
   have hz:(za s).size=s.length:=Zs s;rw [y9,if_pos hc] at ct;rw [hc] at ct;clear hq h1 h2 hc hl hf hM
   go_enter Tryz.func64,Tryz.ntmps64
   go_wp2_with fail
   refine ct.mono ?_;clear ct;rintro e w1 ⟨rfl,hk1,hr1⟩;have cc:=HR.out w1 hr1;clear HR;go_wp2_with fail
   refine cc.mono ?_;clear cc;rintro e w2 ⟨rfl,hk2,hr2⟩;have cm:=yD r g σ2 [93] w2 hr2;go_wp2_with fail
   refine cm.mono ?_;clear cm;rintro e w3 ⟨rfl,hk3,hr3⟩;have HZ:Hid (zc r w w3∧zz r g (mustF [93] σ2) w3):=⟨(hk1.trans hk2).trans hk3,hr3⟩;clear hk1 hk2 hk3 hr1 hr2 hr3;go_wp2
   exact bodyPost_ret (v:=.string (za ([91]++s++[93]))) (by simp [results,Tryz.results64,go_sem,Qr]) rfl ⟨rfl,HZ.out⟩
  ·rw [if_neg hc] at hq
   obtain rfl:=Option.some.inj hq;rw [y9,if_neg hc] at ct;rw [Bool.not_eq_true] at hc;rw [hc] at ct;have HR:Hid (∀W,zz r g σ W→Calls Tryz.prog 60 #[.pointer (some ⟨r,0,none⟩)] W fun e w'=>e=.returned (.string (za (nameF σ).1))∧zc r W w'∧zz r g (nameF σ).2 w'):=fun W hW=>V3 r g σ W hW
   generalize nameF σ=q at *;clear hq hc
   go_enter Tryz.func64,Tryz.ntmps64
   go_wp2_with fail
   refine ct.mono ?_;clear ct;rintro e w1 ⟨rfl,hk1,hr1⟩;have cc:=HR.out w1 hr1;clear HR;go_wp2_with fail
   refine cc.mono ?_;clear cc;rintro e w2 ⟨rfl,hk2,hr2⟩;have HZ:Hid (zc r w w2∧zz r g q.2 w2):=⟨hk1.trans hk2,hr2⟩;clear hk1 hk2 hr1 hr2;go_wp2
   exact bodyPost_ret (v:=.string (za q.1)) (by simp [results,Tryz.results64,go_sem]) rfl ⟨rfl,HZ.out⟩
end Go.Proofs.YtpejpbbdgblbeaaGreatDoor
