import Derived.Test.YtpejpbbdgblbeaaGreatDoorMC40
import Derived.Test.YtpejpbbdgblbeaaGreatDoorMC31
import Derived.Test.YtpejpbbdgblbeaaGreatDoorMC20
import Derived.Test.YtpejpbbdgblbeaaGreatDoorMC32
import Derived.Test.YtpejpbbdgblbeaaGreatDoorMC51
namespace Go.Proofs.YtpejpbbdgblbeaaGreatDoor
open Go.RowKit Go.Shelf
set_option maxHeartbeats 16000000
def vM (t:Tk):Prop:=ZO t.k t.n t.s∧t.n≤9223372036854775807
theorem vM.hd {ts:List Tk} (h:∀t∈ts,vM t):vM (zv ts):=by
 cases ts with
 | nil=>exact ⟨(ZR (k:=0) (n:=0) (by decide) (by decide)).2 (.inl ⟨rfl,rfl,rfl⟩),Nat.zero_le _⟩
 | cons t us=>exact h t (List.mem_cons_self ..)
theorem vM.name {t:Tk} (h:vM t) (hk:t.k=1):ZO 1 0 t.s:=by
 have y:=h.1;rw [hk] at y;rcases (ZR (by decide) (by decide)).1 y with ⟨o,-⟩ | ⟨-,o,-⟩ | ⟨o,-⟩ | ⟨o,-⟩
 ·exact absurd o (by decide)
 ·exact (ZR (k:=1) (n:=0) (by decide) (by decide)).2 (.inr (.inl ⟨rfl,o,rfl⟩))
 ·exact absurd o (by decide)
 ·exact absurd o (by decide)
theorem vM.num {t:Tk} (h:vM t):ZO 2 (t.n:Int) []:=by
 have o:=h.2;exact (Uv (by omega)).2 ⟨rfl,by omega⟩
theorem vM.text {t:Tk} (h:vM t) (hk:t.k=3):ZO 3 0 t.s:=by
 have o:=h.1;rw [hk] at o;have y:=V8.1 o;rw [y.2] at o;exact o
def gd1 (k:Nat) (s:List UInt8) (n:Int) (m:Nat):Prop:=yQ k s n m=true∧(k=1→ZO 2 n [])∧(k=3→ZO 3 0 s)∧(k=4∨k=5∨k=9∨k=11→ZO 1 0 s)
mutual
def gdE:Ex→Prop
 | .mk k s n kids _=>gd1 k s n kids.length∧gdL kids
def gdL:List Ex→Prop
 | []=>True
 | x::xs=>gdE x∧gdL xs
end
theorem XQ {k:Nat} {s:List UInt8} {n:Int} {kids:List Ex} {line:Nat} (h:gd1 k s n kids.length) (hk:gdL kids):gdE (.mk k s n kids line):=by
 rw [gdE];exact ⟨h,hk⟩
theorem xT {x:Ex} (h:gdE x):gdL [x]:=⟨h,trivial⟩
theorem zac {x y:Ex} (h:gdE x) (g:gdE y):gdL [x,y]:=⟨h,g,trivial⟩
theorem zfO {l:List Ex} {x:Ex} (h:gdL l) (g:gdE x):gdL (l++[x]):=by
 induction l with
 | nil=>exact xT g
 | cons y ys ih=>exact ⟨h.1,ih h.2⟩
theorem zde {l:List Ex} (h:gdL l):∀x∈l,gdE x:=by
 induction l with
 | nil=>intro x o;cases o
 | cons y ys ih =>
  intro x o;rcases List.mem_cons.1 o with rfl | o
  ·exact h.1
  ·exact ih h.2 x o
theorem xG {s:List UInt8} {ts us:List Tk} (h:Z3 ts=some (.ok (s,us))) (hE:∀t∈ts,vM t):ZO 1 0 s:=by
 rw [vx h];refine (vM.hd hE).name ?_
 unfold Z3 at h
 split at h
 ·assumption
 ·cases h
theorem zcy (f:Nat) :
  (∀least ts x us,1≤least→zf f least ts=some (.ok (x,us))→(∀t∈ts,vM t)→gdE x)∧(∀least e ts x us,1≤least→Zp f least e ts=some (.ok (x,us))→(∀t∈ts,vM t)→gdE e→gdE x) ∧
  (∀ts x us,Zg f ts=some (.ok (x,us))→(∀t∈ts,vM t)→gdE x)∧(∀e ts x us,zw f e ts=some (.ok (x,us))→(∀t∈ts,vM t)→gdE e→gdE x)∧(∀ts x us,zC f ts=some (.ok (x,us))→(∀t∈ts,vM t)→gdE x) ∧
  (∀pre ts x us,ZY f pre ts=some (.ok (x,us))→(∀t∈ts,vM t)→gdL pre→gdL x∧x≠[])∧(∀ts x us,zA f ts=some (.ok (x,us))→(∀t∈ts,vM t)→gdL x):=by
 induction f with
 | zero=>refine ⟨?_,?_,?_,?_,?_,?_,?_⟩ <;> intros <;> simp_all [zf,Zp,Zg,zw,zC,ZY,zA]
 | succ f ih =>
  obtain ⟨J,i2,Y,U,i5,T,i7⟩:=ih;obtain ⟨N,j2,j3,j4,j5,j6,j7⟩:=vu (P:=vM) f;refine ⟨fun least ts x us hl h hE=>?_,fun least e ts x us hl h hE he=>?_,fun ts x us h hE=>?_,fun e ts x us h hE he=>?_,fun ts x us h hE=>?_,fun pre ts x us h hE he=>?_,fun ts x us h hE=>?_⟩
  ·rw [zf] at h
   split at h
   ·exact Y _ _ _ h hE
   ·obtain ⟨y,D,o,A⟩:=za h
    exact i2 _ _ _ _ _ hl A (N _ _ _ _ o hE) (J _ _ _ _ (by omega) o hE)
  ·rw [Zp] at h
   split at h
   ·rename_i hc
    obtain ⟨y,D,o,A⟩:=za h;refine i2 _ _ _ _ _ hl A (N _ _ _ _ o (zt hE)) (XQ ⟨?_,fun h=>absurd h (by decide),fun h=>absurd h (by decide),fun h=>absurd h (by decide)⟩ (zac he (J _ _ _ _ (by omega) o (zt hE))))
    have I:0<levelOf (zv ts).s:=by omega
    show yQ 7 _ 0 2=true
    simp [yQ,I]
   ·obtain ⟨rfl,rfl⟩:=zk h;exact he
  ·rw [Zg] at h
   split at h
   ·rename_i hc
    obtain ⟨y,D,o,A⟩:=za h;obtain ⟨rfl,rfl⟩:=zk A;refine XQ ⟨?_,fun h=>absurd h (by decide),fun h=>absurd h (by decide),fun h=>absurd h (by decide)⟩ (xT (Y _ _ _ o (zt hE)))
    show yQ 6 _ 0 1=true
    rcases hc.2 with Z | Z <;> simp [yQ,Z]
   ·obtain ⟨y,D,o,A⟩:=za h
    exact U _ _ _ _ A (j5 _ _ _ o hE) (i5 _ _ _ o hE)
  ·rw [zw] at h
   split at h
   ·obtain ⟨y,D,o,A⟩:=za h
    obtain ⟨z,L,H,G⟩:=za A;exact U _ _ _ _ G (Zb H (N _ _ _ _ o (zt hE))) (XQ ⟨rfl,fun h=>absurd h (by decide),fun h=>absurd h (by decide),fun h=>absurd h (by decide)⟩ (zac he (J _ _ _ _ (by omega) o (zt hE))))
   split at h
   ·obtain ⟨y,D,o,A⟩:=za h
    exact U _ _ _ _ A (Z9 o (zt hE)) (XQ ⟨rfl,fun h=>absurd h (by decide),fun h=>absurd h (by decide),fun _=>xG o (zt hE)⟩ (xT he))
   ·obtain ⟨rfl,rfl⟩:=zk h;exact he
  ·have I:=vM.hd hE
   rw [zC] at h
   split at h
   ·obtain ⟨rfl,rfl⟩:=zk h;exact XQ ⟨rfl,fun _=>I.num,fun h=>absurd h (by decide),fun h=>absurd h (by decide)⟩ trivial
   split at h
   ·rename_i O
    obtain ⟨rfl,rfl⟩:=zk h;exact XQ ⟨rfl,fun h=>absurd h (by decide),fun _=>I.text O,fun h=>absurd h (by decide)⟩ trivial
   split at h
   ·rename_i O
    split at h
    ·obtain ⟨y,D,o,A⟩:=za h
     obtain ⟨rfl,rfl⟩:=zk A;exact XQ ⟨rfl,fun h=>absurd h (by decide),fun h=>absurd h (by decide),fun _=>I.name O⟩ (i7 _ _ _ o (zt hE))
    ·obtain ⟨rfl,rfl⟩:=zk h;exact XQ ⟨rfl,fun h=>absurd h (by decide),fun h=>absurd h (by decide),fun _=>I.name O⟩ trivial
   split at h
   ·obtain ⟨rfl,rfl⟩:=zk h;exact XQ ⟨rfl,fun h=>absurd h (by decide),fun h=>absurd h (by decide),fun h=>absurd h (by decide)⟩ trivial
   split at h
   ·obtain ⟨rfl,rfl⟩:=zk h;exact XQ ⟨rfl,fun h=>absurd h (by decide),fun h=>absurd h (by decide),fun h=>absurd h (by decide)⟩ trivial
   split at h
   ·obtain ⟨y,D,o,A⟩:=za h
    obtain ⟨z,L,H,G⟩:=za A;obtain ⟨rfl,rfl⟩:=zk G;exact XQ ⟨rfl,fun h=>absurd h (by decide),fun h=>absurd h (by decide),fun _=>xG o (zt hE)⟩ (i7 _ _ _ H (Z9 o (zt hE)))
   split at h
   ·obtain ⟨y,D,o,A⟩:=za h
    obtain ⟨z,L,H,G⟩:=za A;obtain ⟨rfl,rfl⟩:=zk G;obtain ⟨g1,g2⟩:=T _ _ _ _ o (zt hE) trivial;refine XQ ⟨?_,fun h=>absurd h (by decide),fun h=>absurd h (by decide),fun h=>absurd h (by decide)⟩ g1
    have g3:1≤y.length:=List.length_pos_iff.2 g2;show yQ 10 [] 0 y.length=true
    simp [yQ,g3]
   ·obtain ⟨y,D,o,A⟩:=za h
    obtain ⟨z,L,H,G⟩:=za A;obtain ⟨z',V,h5,R⟩:=za G;obtain ⟨rfl,rfl⟩:=zk R;exact J _ _ _ _ (by omega) H (Zb o hE)
  ·rw [ZY] at h
   obtain ⟨y,D,o,A⟩:=za h;have Q:=N _ _ _ _ o hE;have W:=zfO he (J _ _ _ _ (by omega) o hE)
   split at A
   ·exact T _ _ _ _ A (zt Q) W
   ·obtain ⟨rfl,rfl⟩:=zk A;exact ⟨W,by simp⟩
  ·rw [zA] at h
   obtain ⟨y,D,o,A⟩:=za h;have Q:=Zb o hE
   split at A
   ·obtain ⟨rfl,rfl⟩:=zk A;trivial
   ·obtain ⟨z,L,H,G⟩:=za A
    obtain ⟨z',V,h5,R⟩:=za G;obtain ⟨rfl,rfl⟩:=zk R;exact (T _ _ _ _ H Q trivial).1
abbrev So (o:Option (List UInt8)):Prop:=∃t,o=some t
theorem So.s (u:List UInt8):So (some u):=⟨u,rfl⟩
theorem So.then {a b:Option (List UInt8)} (ha:So a) (hb:So b):So (zc a b):=by
 obtain ⟨u,rfl⟩:=ha;obtain ⟨v,rfl⟩:=hb;exact ⟨u++v,rfl⟩
theorem So.tok {k n:Int} {s:List UInt8} (h:ZO k n s):So (tokO k n s):=by
 refine ⟨xI k n s,?_⟩
 unfold tokO tkB
 rw [if_pos h]
 rfl
theorem So.kid {x:Ez} {least:Nat} {o:Option (List UInt8)} (h:So o):So (kidO x least o):=by
 unfold kidO
 split
 ·exact h
 ·exact (So.s _).then (h.then (So.s _))
theorem So.row {l:List (Option (List UInt8))}:∀i,i≤l.length→(∀o∈l,So o)→So (rowO l i)
 | 0,_,_=>So.s _
 | i+1,hi,h=>by
  unfold rowO
  refine (So.row i (by omega) h).then ((So.s _).then ?_)
  rw [List.getElem?_eq_getElem (by omega)]
  exact h _ (List.getElem_mem ..)
theorem zdf:∀(d:Nat) (e:Ex),gdE e→zO e≤d→So (prE d (Xr e))
 | 0,.mk k s n kids line,_,hd=>by rw [zO] at hd;omega
 | d+1,.mk k s n kids line,hg,hd=>by
  rw [gdE] at hg;obtain ⟨⟨h,N,L,D⟩,J⟩:=hg;rw [zO] at hd;have z:∀x∈kids,So (prE d (Xr x)):=fun x A=>zdf d x (zde J x A) (by have:=xA A;omega)
  rw [Xr,X8,VS]
  have G:So (rowO ((kids.map Xr).map (prE d)) (kids.map Xr).length):=So.row _ (by simp) fun o ho=>by
   obtain ⟨y,I,rfl⟩:=List.mem_map.1 ho;obtain ⟨x,A,rfl⟩:=List.mem_map.1 I;exact z x A
  have H:yQ k s n (kids.map Xr).length=true:=by rw [List.length_map];exact h
  unfold prB
  rw [if_pos H]
  unfold yQ at h
  by_cases h1:(k:Int)=1
  ·rw [if_pos h1];exact So.tok (N (by omega))
  rw [if_neg h1] at h ⊢
  by_cases h2:(k:Int)=2
  ·rw [if_pos h2];exact So.s _
  rw [if_neg h2] at h ⊢
  by_cases h3:(k:Int)=3
  ·rw [if_pos h3];exact So.tok (L (by omega))
  rw [if_neg h3] at h ⊢
  by_cases h4:(k:Int)=4
  ·rw [if_pos h4];exact So.tok (D (by omega))
  rw [if_neg h4] at h ⊢
  by_cases h5:(k:Int)=5
  ·rw [if_pos h5];exact (So.tok (D (by omega))).then ((So.s _).then (G.then (So.s _)))
  rw [if_neg h5] at h ⊢
  by_cases h11:(k:Int)=11
  ·rw [if_pos h11];exact (So.s _).then ((So.tok (D (by omega))).then ((So.s _).then (G.then (So.s _))))
  rw [if_neg h11] at h ⊢
  by_cases h10:(k:Int)=10
  ·rw [if_pos h10];exact (So.s _).then (G.then (So.s _))
  rw [if_neg h10] at h ⊢
  by_cases h6:(k:Int)=6
  ·rw [if_pos h6] at h ⊢
   simp at h
   obtain ⟨a,rfl⟩:=List.length_eq_one_iff.1 h.1.2;exact (So.s _).then (So.kid (z a (by simp)))
  rw [if_neg h6] at h ⊢
  by_cases h7:(k:Int)=7
  ·rw [if_pos h7] at h ⊢
   simp at h
   match kids,h.1.2,z with
   | [a,b],_,z=>exact (So.kid (z a (by simp))).then ((So.s _).then ((So.s _).then ((So.s _).then (So.kid (z b (by simp))))))
  rw [if_neg h7] at h ⊢
  by_cases h8:(k:Int)=8
  ·rw [if_pos h8] at h ⊢
   simp at h
   match kids,h.1.2,z with
   | [a,b],_,z=>exact (So.kid (z a (by simp))).then ((So.s _).then ((z b (by simp)).then (So.s _)))
  rw [if_neg h8] at h ⊢
  by_cases h9:(k:Int)=9
  ·rw [if_pos h9] at h ⊢
   simp at h
   obtain ⟨a,rfl⟩:=List.length_eq_one_iff.1 h.2;exact (So.kid (z a (by simp))).then ((So.s _).then (So.tok (D (by omega))))
  ·rw [if_neg h9] at h
   cases h
mutual
def gdS:St→Prop
 | .mk k s es body els _=>Ye k s (ye es) body.length els.length=true∧(k=1→ZO 1 0 s)∧gdL es∧uW body∧uW els
def uW:List St→Prop
 | []=>True
 | x::xs=>gdS x∧uW xs
end
theorem uO {k:Nat} {s:List UInt8} {es:List Ex} {b c:List St} {line:Nat} (h:Ye k s (ye es) b.length c.length=true) (hs:k=1→ZO 1 0 s) (he:gdL es) (hb:uW b) (hc:uW c):gdS (.mk k s es b c line):=by
 rw [gdS];exact ⟨h,hs,he,hb,hc⟩
theorem zee {l:List St} {x:St} (h:uW l) (g:gdS x):uW (l++[x]):=by
 induction l with
 | nil=>exact ⟨g,trivial⟩
 | cons y ys ih=>exact ⟨h.1,ih h.2⟩
theorem U8 {l:List St} (h:uW l):∀x∈l,gdS x:=by
 induction l with
 | nil=>intro x o;cases o
 | cons y ys ih =>
  intro x o;rcases List.mem_cons.1 o with rfl | o
  ·exact h.1
  ·exact ih h.2 x o
theorem zg8 {e:Ex} (h:yX e=true):x9 (Xr e)=true:=by
 obtain ⟨k,s,n,kids,line⟩:=e
 have o:k=4∨k=8∨k=9:=by
  unfold yX Ex.kind at h
  simp at h
  omega
 rw [Xr];rcases o with rfl | rfl | rfl <;> rfl
theorem zef (f:Nat) :
  (∀ts x us,Ze f ts=some (.ok (x,us))→(∀t∈ts,vM t)→gdS x)∧(∀ts x us,zH f ts=some (.ok (x,us))→(∀t∈ts,vM t)→uW x)∧(∀pre ts x us,Zd f pre ts=some (.ok (x,us))→(∀t∈ts,vM t)→uW pre→uW x):=by
 induction f with
 | zero=>refine ⟨?_,?_,?_⟩ <;> intros <;> simp_all [Ze,zH,Zd]
 | succ f ih =>
  obtain ⟨Q,D,L⟩:=ih;obtain ⟨R,O,T⟩:=Q4 (P:=vM) f;have J:=fun ts x us h hW=>(vu (P:=vM) f).1 1 ts x us h hW
  have z:=fun ts x us h hW=>(zcy f).1 1 ts x us (by omega) h hW
  refine ⟨fun ts x us h hW=>?_,fun ts x us h hW=>?_,fun pre ts x us h hW hp=>?_⟩
  ·rw [Ze] at h
   split at h
   ·obtain ⟨_,_,o,h⟩:=za h
    obtain ⟨_,_,y,h⟩:=za h;obtain ⟨_,_,A,h⟩:=za h;obtain ⟨_,_,U,h⟩:=za h;obtain ⟨rfl,rfl⟩:=zk h;exact uO rfl (fun _=>xG o (zt hW)) (xT (z _ _ _ A (Zb y (Z9 o (zt hW))))) trivial trivial
   split at h
   ·obtain ⟨_,_,o,h⟩:=za h
    obtain ⟨_,_,y,h⟩:=za h;have G:=J _ _ _ o (zt hW);have H:=O _ _ _ y G;have N:=xT (z _ _ _ o (zt hW))
    split at h
    ·obtain ⟨_,_,A,h⟩:=za h
     obtain ⟨rfl,rfl⟩:=zk h;exact uO (by simp [Ye,hasX,ye]) (fun h=>absurd h (by decide)) N (D _ _ _ y G) (D _ _ _ A (zt H))
    ·obtain ⟨rfl,rfl⟩:=zk h
     exact uO (by simp [Ye,hasX,ye]) (fun h=>absurd h (by decide)) N (D _ _ _ y G) trivial
   split at h
   ·obtain ⟨_,_,o,h⟩:=za h
    obtain ⟨_,_,y,h⟩:=za h;obtain ⟨rfl,rfl⟩:=zk h;exact uO (by simp [Ye,hasX,ye]) (fun h=>absurd h (by decide)) (xT (z _ _ _ o (zt hW))) (D _ _ _ y (J _ _ _ o (zt hW))) trivial
   split at h
   ·split at h
    ·obtain ⟨rfl,rfl⟩:=zk h
     exact uO rfl (fun h=>absurd h (by decide)) trivial trivial trivial
    ·obtain ⟨_,_,o,h⟩:=za h
     obtain ⟨_,_,y,h⟩:=za h;obtain ⟨rfl,rfl⟩:=zk h;exact uO rfl (fun h=>absurd h (by decide)) (xT (z _ _ _ o (zt hW))) trivial trivial
   ·obtain ⟨_,_,o,h⟩:=za h
    have H:=J _ _ _ o hW
    split at h
    ·split at h
     ·rename_i I
      obtain ⟨_,_,y,h⟩:=za h;obtain ⟨_,_,A,h⟩:=za h;obtain ⟨rfl,rfl⟩:=zk h;exact uO (by simp [Ye,hasX,ye,zg8 I]) (fun h=>absurd h (by decide)) (zac (z _ _ _ o hW) (z _ _ _ y (zt H))) trivial trivial
     ·cases h
    ·obtain ⟨_,_,y,h⟩:=za h
     obtain ⟨rfl,rfl⟩:=zk h;exact uO rfl (fun h=>absurd h (by decide)) (xT (z _ _ _ o hW)) trivial trivial
  ·rw [zH] at h
   obtain ⟨_,_,o,h⟩:=za h;exact L _ _ _ _ h (Zb o hW) trivial
  ·rw [Zd] at h
   split at h
   ·obtain ⟨rfl,rfl⟩:=zk h
    exact hp
   ·obtain ⟨_,_,o,h⟩:=za h
    exact L _ _ _ _ h (R _ _ _ o hW) (zee hp (Q _ _ _ o hW))
theorem zeg (l:List UInt8):xx (91::(l++[93]))=true∧Yq (91::(l++[93]))=l:=by
 refine ⟨?_,by simp [Yq]⟩
 unfold xx Lib.hasPrefix Lib.hasSuffix
 rw [Bool.and_eq_true];exact ⟨by simp [List.isPrefixOf],List.isSuffixOf_iff_suffix.2 ⟨91::l,by simp⟩⟩
theorem zeh {n:List UInt8} (h:ZO 1 0 n):xx n=false:=by
 obtain ⟨-,c,r,rfl,z⟩:=Lx.name (t:=n) (s:=n) (by
  obtain ⟨t,o⟩:=So.tok h;rw [o]
  have:=(Xp o (by decide)).2
  rw [this];rfl)
 unfold xx Lib.hasPrefix
 have y:(91==c)=false:=by
  rw [beq_eq_false_iff_ne];rintro rfl;rcases (ZR (k:=1) (n:=0) (by decide) (by decide)).1 h with ⟨h,-⟩ | ⟨-,h,-⟩ | ⟨h,-⟩ | ⟨h,-⟩
  ·exact absurd h (by decide)
  ·unfold Y3 at h
   simp only at h;rw [Bool.and_eq_true,Bool.and_eq_true,Bool.and_eq_true] at h;exact absurd h.1.1.1 (by decide)
  ·exact absurd h (by decide)
  ·exact absurd h (by decide)
 simp [List.isPrefixOf,y]
theorem U9 {n:List UInt8} (h:ZO 1 0 n):∀k,ZF (List.replicate k 91++n++List.replicate k 93)=n
 | 0=>by
  rw [List.replicate_zero,List.replicate_zero,List.append_nil,List.nil_append];exact XD (zeh h)
 | k+1=>by
  have e:List.replicate (k+1) 91++n++List.replicate (k+1) 93=91::((List.replicate k 91++n++List.replicate k 93)++[93]):=by
   rw [List.replicate_succ,List.replicate_succ' (n:=k) (a:=(93:UInt8))];simp
  obtain ⟨y,o⟩:=zeg (List.replicate k 91++n++List.replicate k 93);rw [e,Vl y,o];exact U9 h k
theorem Vy:∀(ts:List Tk) (k:Nat) (s:List UInt8) (us:List Tk),ZB k ts=.ok (s,us)→(∀t∈ts,vM t)→ZO 1 0 (ZF s)
 | [],k,s,us,h,_=>by simp [ZB] at h
 | t::ts,k,s,us,h,hM=>by
  rw [ZB] at h
  split at h
  ·exact Vy ts (k+1) s us h fun x hx=>hM x (List.mem_cons_of_mem _ hx)
  ·split at h
   ·rename_i y
    have o:=(hM t (List.mem_cons_self ..)).name y;cases hc:ZS k ts with
    | error a=>rw [hc] at h;simp [Xg] at h
    | ok vs =>
     rw [hc] at h;simp only [Xg,Except.ok.injEq,Prod.mk.injEq] at h;obtain ⟨rfl,-⟩:=h;rw [U9 o];exact o
   ·cases h
def gdP (p:Pm):Prop:=ZO 1 0 p.1∧ZO 1 0 (ZF p.2)
theorem VY:∀(f:Nat) (o l:List Pm) (ts y:List Tk),zN f o ts=some (.ok (l,y))→(∀t∈ts,vM t)→(∀p∈o,gdP p)→(∀p∈l,gdP p)∧l≠[]:=by
 intro f
 induction f with
 | zero=>intro o l ts y h;simp [zN] at h
 | succ f ih =>
  intro o l ts y h D J;rw [zN] at h
  unfold Z8 at h
  by_cases h1:(zv ts).k=1
  ·rw [if_pos h1] at h
   by_cases h2:zm (zv ts.tail) [58]=true
   ·rw [if_pos h2] at h
    cases hs:ZB 0 ts.tail.tail with
    | error a=>rw [hs] at h;simp at h
    | ok p =>
     obtain ⟨s,L⟩:=p;rw [hs] at h;have H:=vv _ _ _ _ hs (zt (zt D));have z:=Vy _ _ _ _ hs (zt (zt D));have I:=(vM.hd D).name h1
     have G:∀p∈o++[((zv ts).s,s)],gdP p:=fun p hp2=>by
      rcases List.mem_append.1 hp2 with A | A
      ·exact J p A
      ·obtain rfl:=List.mem_singleton.1 A
       exact ⟨I,z⟩
     simp only at h
     split at h
     ·exact ih _ _ _ _ h (zt H) G
     ·obtain ⟨rfl,rfl⟩:=zk h
      exact ⟨G,by simp⟩
   ·rw [if_neg h2] at h
    simp at h
  ·rw [if_neg h1] at h
   simp at h
theorem zcz {f:Nat} {ts us:List Tk} {l:List Pm} (h:yo f ts=some (.ok (l,us))) (hP:∀t∈ts,vM t):∀p∈l,gdP p:=by
 unfold yo at h
 obtain ⟨_,D,A,h⟩:=za h;have o:=Zb A hP
 split at h
 ·obtain ⟨rfl,rfl⟩:=zk h
  intro p y;cases y
 ·obtain ⟨_,z,H,h⟩:=za h
  obtain ⟨_,G,I,h⟩:=za h;obtain ⟨rfl,rfl⟩:=zk h;exact (VY _ _ _ _ _ H o fun p y=>by cases y).1
theorem zei {ts us:List Tk} {s:List UInt8} (h:xK ts=some (.ok (s,us))) (hP:∀t∈ts,vM t):s=[]∨ZO 1 0 (ZF s):=by
 unfold xK at h
 split at h
 ·exact .inr (Vy _ _ _ _ (Option.some.inj h) (zt hP))
 ·obtain ⟨rfl,rfl⟩:=zk h
  exact .inl rfl
def gdR (x:Rc):Prop:=ZO 1 0 x.name∧(∀p∈x.fields,gdP p)∧x.fields≠[]
def gdF (x:Fc):Prop:=ZO 1 0 x.name∧(∀p∈x.params,gdP p)∧(x.result=[]∨ZO 1 0 (ZF x.result))∧uW x.body
theorem zad {f line:Nat} {ts us:List Tk} {x:Rc} (h:Zl f line ts=some (.ok (x,us))) (hP:∀t∈ts,vM t):gdR x:=by
 unfold Zl at h
 obtain ⟨_,_,o,h⟩:=za h;obtain ⟨_,_,z,h⟩:=za h;obtain ⟨_,_,y,h⟩:=za h;obtain ⟨_,_,A,h⟩:=za h;obtain ⟨rfl,rfl⟩:=zk h;exact ⟨xG o hP,VY _ _ _ _ _ y (Zb z (Z9 o hP)) fun p hp=>by cases hp⟩
theorem zcA {f line:Nat} {ts us:List Tk} {x:Fc} (h:ZX f line ts=some (.ok (x,us))) (hP:∀t∈ts,vM t):gdF x:=by
 unfold ZX at h
 obtain ⟨_,_,D,h⟩:=za h;obtain ⟨_,_,G,h⟩:=za h;obtain ⟨_,_,A,h⟩:=za h;obtain ⟨_,_,H,h⟩:=za h;obtain ⟨rfl,rfl⟩:=zk h;have o:=Z9 D hP;have y:=UR G o;have z:=QY A y;exact ⟨xG D hP,zcz G o,zei A y,(zef f).2.1 _ _ _ H z⟩
def gdG (x:Pg):Prop:=(∀r∈x.recs,gdR r)∧∀g∈x.funs,gdF g
theorem zbr {α:Type} {P:α→Prop} {l:List α} {x:α} (h:∀y∈l,P y) (g:P x):∀y∈l++[x],P y:=fun y hy=>by
 rcases List.mem_append.1 hy with o | o
 ·exact h y o
 ·obtain rfl:=List.mem_singleton.1 o
  exact g
theorem uw:∀(f:Nat) (rs:List Rc) (fs:List Fc) (ts:List Tk) (x:Pg) (us:List Tk),Zm f rs fs ts=some (.ok (x,us))→(∀t∈ts,vM t)→(∀r∈rs,gdR r)→(∀g∈fs,gdF g)→gdG x
 | 0,_,_,_,_,_,h,_,_,_=>by simp [Zm] at h
 | f+1,rs,fs,ts,x,us,h,hP,hr,hf=>by
  rw [Zm] at h
  by_cases c0:(zv ts).k=0
  ·rw [if_pos c0] at h
   obtain ⟨rfl,rfl⟩:=zk h;exact ⟨hr,hf⟩
  rw [if_neg c0] at h
  by_cases c1:zm (zv ts) [114,101,99,111,114,100]=true
  ·rw [if_pos c1] at h
   obtain ⟨y,A,o,z⟩:=za h;exact uw f _ _ _ _ _ z (US o (zt hP)) (zbr hr (zad o (zt hP))) hf
  rw [if_neg c1] at h
  by_cases c2:zm (zv ts) [102,110]=true
  ·rw [if_pos c2] at h
   obtain ⟨y,A,o,z⟩:=za h;exact uw f _ _ _ _ _ z (Ql o (zt hP)) hr (zbr hf (zcA o (zt hP)))
  ·rw [if_neg c2] at h
   simp at h
theorem So.cat {l:List (Option (List UInt8))}:∀i,i≤l.length→(∀o∈l,So o)→So (yL l i)
 | 0,_,_=>So.s _
 | i+1,hi,h=>by
  unfold yL
  refine (So.cat i (by omega) h).then ?_
  rw [List.getElem?_eq_getElem (by omega)]
  exact h _ (List.getElem_mem ..)
theorem So.blk {f:Sz→Option (List UInt8)} {l:List St} (h:∀x∈l,So (f (uT x))):So (blkO f (yF l)):=by
 rw [VT];refine (So.s _).then ((So.cat _ (by simp) fun o ho=>?_).then (So.s _))
 obtain ⟨y,z,rfl⟩:=List.mem_map.1 ho;obtain ⟨x,A,rfl⟩:=List.mem_map.1 z;exact h x A
theorem qd:∀(d:Nat) (x:St),gdS x→Zo x≤d→So (prS d (uT x))
 | 0,.mk k s es body els line,_,hd=>by rw [Zo] at hd;omega
 | d+1,.mk k s es body els line,hg,hd=>by
  rw [gdS] at hg;obtain ⟨A,N,ge,L,I⟩:=hg;rw [Zo] at hd;have z:∀x∈es,So (prE d (Xr x)):=fun x h=>zdf d x (zde ge x h) (by have:=xA h;omega)
  have H:So (blkO (prS d) (yF body)):=So.blk fun x h=>qd d x (U8 L x h) (by have:=yZ h;omega)
  have J:So (blkO (prS d) (yF els)):=So.blk fun x h=>qd d x (U8 I x h) (by have:=yZ h;omega)
  rw [uT,vo];have G:Ye k s (ye es) (yF body).length (yF els).length=true:=by rw [VT,VT,List.length_map,List.length_map];exact A
  unfold prT
  rw [if_pos G]
  have h:hasX k (ye es)=true:=by
   unfold Ye at A
   rw [Bool.and_eq_true,Bool.and_eq_true,Bool.and_eq_true] at A;exact A.1.1.1
  unfold hasX at h
  match es,z,h with
  | [],_,h =>
   by_cases h6:(k:Int)=6
   ·rw [h6]
    exact (So.s _).then (So.s _)
   ·simp [ye,h6] at h
  | [a],z,h =>
   have y:=z a (List.mem_cons_self ..);show So (if (k:Int)=1 then _ else _)
   by_cases h1:(k:Int)=1
   ·rw [if_pos h1];exact (So.s _).then ((So.tok (N (by omega))).then ((So.s _).then (y.then (So.s _))))
   rw [if_neg h1]
   by_cases o:(k:Int)=2
   ·rw [o] at h;simp [ye] at h
   rw [if_neg o]
   by_cases h6:(k:Int)=6
   ·rw [if_pos h6];exact (So.s _).then ((So.s _).then (y.then (So.s _)))
   rw [if_neg h6]
   by_cases h7:(k:Int)=7
   ·rw [if_pos h7];exact y.then (So.s _)
   rw [if_neg h7]
   by_cases h4:(k:Int)=4
   ·rw [if_pos h4];exact (So.s _).then (y.then ((So.s _).then (H.then ((So.s _).then (J.then (So.s _))))))
   rw [if_neg h4];exact (So.s _).then (y.then ((So.s _).then (H.then (So.s _))))
  | a::b::cs,z,h =>
   have y:=z a (List.mem_cons_self ..);have D:=z b (List.mem_cons_of_mem _ (List.mem_cons_self ..))
   have o:(k:Int)=2:=by
    by_cases o:(k:Int)=2
    ·exact o
    ·simp [ye,o] at h
   rw [o];exact y.then ((So.s _).then (D.then (So.s _)))
theorem So.par {p:Pm} (h:gdP p):So (parO p):=(So.tok h.1).then ((So.s _).then ((So.s _).then ((So.tok h.2).then (So.s _))))
theorem So.pars {l:List Pm} (h:∀p∈l,gdP p):So (rowO (l.map parO) l.length):=So.row _ (by simp) fun o ho=>by
 obtain ⟨y,z,rfl⟩:=List.mem_map.1 ho;exact So.par (h y z)
theorem zfP {x:Rc} (h:gdR x):So (recO (rcz x).name (rcz x).fields):=by
 show So (recO x.name x.fields)
 unfold recO
 rw [if_pos (List.length_pos_iff.2 h.2.2)];exact (So.s _).then ((So.tok h.1).then ((So.s _).then ((So.pars h.2.1).then (So.s _))))
theorem zfQ {x:Fc} (h:gdF x) (hd:depthSs x.body≤24):So (funO (fcz x)):=by
 obtain ⟨A,D,o,G⟩:=h;have I:So (blkO (prS 24) (yF x.body)):=So.blk fun y hy=>qd 24 y (U8 G y hy) (by have:=yZ hy;omega)
 have z:So (if x.result=[] then some [] else zc (some [58,32]) (typeO x.result)):=by
  split
  ·exact So.s _
  ·rename_i H
   rcases o with o | o
   ·exact absurd o H
   ·exact (So.s _).then ((So.s _).then ((So.tok o).then (So.s _)))
 exact (So.s _).then ((So.tok A).then ((So.s _).then ((So.pars D).then ((So.s _).then (z.then ((So.s _).then (I.then (So.s _))))))))
theorem zfR {x:Pg} (h:gdG x) (hd:depthFs x.funs≤24):So (vd (VU x)):=by
 refine (So.cat _ (by simp) fun o ho=>?_).then (So.cat _ (by simp) fun o ho=>?_)
 ·obtain ⟨y,A,rfl⟩:=List.mem_map.1 ho
  obtain ⟨r,z,rfl⟩:=List.mem_map.1 A;exact zfP (h.1 r z)
 ·obtain ⟨y,A,rfl⟩:=List.mem_map.1 ho
  obtain ⟨r,z,rfl⟩:=List.mem_map.1 A;exact zfQ (h.2 r z) (by have:=uI z;omega)
theorem zcB (l:List UInt8):∀t∈(zW l).1,vM t:=by
 intro t o
 by_cases h:(zW l).2.2=0
 ·obtain ⟨-,-,y,-,z,-⟩:=XI ((Ym l).2 h).2.1 t o
  exact ⟨y,by omega⟩
 ·rw [(Ym l).1 h] at o
  cases o
end Go.Proofs.YtpejpbbdgblbeaaGreatDoor
