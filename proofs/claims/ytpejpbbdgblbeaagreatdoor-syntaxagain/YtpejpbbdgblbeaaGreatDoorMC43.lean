import Derived.Test.YtpejpbbdgblbeaaGreatDoorMC40
import Derived.Test.YtpejpbbdgblbeaaGreatDoorMC31
import Derived.Test.YtpejpbbdgblbeaaGreatDoorMC20
import Derived.Test.YtpejpbbdgblbeaaGreatDoorMC32
import Derived.Test.YtpejpbbdgblbeaaGreatDoorMC51
namespace Go.Proofs.YtpejpbbdgblbeaaGreatDoor
open Go.RowKit Go.Shelf
set_option maxHeartbeats 16000000
def vM (t:Tk):Prop:=ZO t.k t.n t.s∧t.n≤9223372036854775807
theorem vM.hd {ts:List Tk} (h:∀t∈ts,vM t):vM (zv ts):=by
 cases ts with
 | nil=>exact ⟨(ZR (k:=0) (n:=0) (by decide) (by decide)).2 (.inl ⟨rfl,rfl,rfl⟩),Nat.zero_le _⟩
 | cons t us=>exact h t (List.mem_cons_self ..)
theorem vM.name {t:Tk} (h:vM t) (hk:t.k=1):ZO 1 0 t.s:=by
 have y:=h.1;rw [hk] at y;rcases (ZR (by decide) (by decide)).1 y with ⟨o,-⟩ | ⟨-,o,-⟩ | ⟨o,-⟩ | ⟨o,-⟩
 ·exact absurd o (by decide)
 ·exact (ZR (k:=1) (n:=0) (by decide) (by decide)).2 (.inr (.inl ⟨rfl,o,rfl⟩))
 ·exact absurd o (by decide)
 ·exact absurd o (by decide)
theorem vM.num {t:Tk} (h:vM t):ZO 2 (t.n:Int) []:=by
 have o:=h.2;exact (Uu (by omega)).2 ⟨rfl,by omega⟩
theorem vM.text {t:Tk} (h:vM t) (hk:t.k=3):ZO 3 0 t.s:=by
 have o:=h.1;rw [hk] at o;have y:=V7.1 o;rw [y.2] at o;exact o
def gd1 (k:Nat) (s:List UInt8) (n:Int) (m:Nat):Prop:=yQ k s n m=true∧(k=1→ZO 2 n [])∧(k=3→ZO 3 0 s)∧(k=4∨k=5∨k=9∨k=11→ZO 1 0 s)
mutual
def gdE:Ex→Prop
 | .mk k s n kids _=>gd1 k s n kids.length∧gdL kids
def gdL:List Ex→Prop
 | []=>True
 | x::xs=>gdE x∧gdL xs
end
theorem XQ {k:Nat} {s:List UInt8} {n:Int} {kids:List Ex} {line:Nat} (h:gd1 k s n kids.length) (hk:gdL kids):gdE (.mk k s n kids line):=by
 rw [gdE];exact ⟨h,hk⟩
theorem xT {x:Ex} (h:gdE x):gdL [x]:=⟨h,trivial⟩
theorem zae {x y:Ex} (h:gdE x) (g:gdE y):gdL [x,y]:=⟨h,g,trivial⟩
theorem zfR {l:List Ex} {x:Ex} (h:gdL l) (g:gdE x):gdL (l++[x]):=by
 induction l with
 | nil=>exact xT g
 | cons y ys ih=>exact ⟨h.1,ih h.2⟩
theorem zdf {l:List Ex} (h:gdL l):∀x∈l,gdE x:=by
 induction l with
 | nil=>intro x o;cases o
 | cons y ys ih =>
  intro x o;rcases List.mem_cons.1 o with rfl | o
  ·exact h.1
  ·exact ih h.2 x o
theorem xG {s:List UInt8} {ts us:List Tk} (h:Z3 ts=some (.ok (s,us))) (hE:∀t∈ts,vM t):ZO 1 0 s:=by
 rw [vx h];refine (vM.hd hE).name ?_
 unfold Z3 at h
 split at h
 ·assumption
 ·cases h
theorem zcA (f:Nat) :
  (∀least ts x us,1≤least→zf f least ts=some (.ok (x,us))→(∀t∈ts,vM t)→gdE x)∧(∀least e ts x us,1≤least→Zp f least e ts=some (.ok (x,us))→(∀t∈ts,vM t)→gdE e→gdE x) ∧
  (∀ts x us,Zg f ts=some (.ok (x,us))→(∀t∈ts,vM t)→gdE x)∧(∀e ts x us,zw f e ts=some (.ok (x,us))→(∀t∈ts,vM t)→gdE e→gdE x)∧(∀ts x us,zC f ts=some (.ok (x,us))→(∀t∈ts,vM t)→gdE x) ∧
  (∀pre ts x us,ZY f pre ts=some (.ok (x,us))→(∀t∈ts,vM t)→gdL pre→gdL x∧x≠[])∧(∀ts x us,zA f ts=some (.ok (x,us))→(∀t∈ts,vM t)→gdL x):=by
 induction f with
 | zero=>refine ⟨?_,?_,?_,?_,?_,?_,?_⟩ <;> intros <;> simp_all [zf,Zp,Zg,zw,zC,ZY,zA]
 | succ f ih =>
  obtain ⟨J,Y,W,T,i5,Q,i7⟩:=ih;obtain ⟨L,j2,j3,j4,j5,j6,j7⟩:=vu (P:=vM) f;refine ⟨fun least ts x us hl h hE=>?_,fun least e ts x us hl h hE he=>?_,fun ts x us h hE=>?_,fun e ts x us h hE he=>?_,fun ts x us h hE=>?_,fun pre ts x us h hE he=>?_,fun ts x us h hE=>?_⟩
  ·rw [zf] at h
   split at h
   ·exact W _ _ _ h hE
   ·obtain ⟨y,D,o,A⟩:=za h
    exact Y _ _ _ _ _ hl A (L _ _ _ _ o hE) (J _ _ _ _ (by omega) o hE)
  ·rw [Zp] at h
   split at h
   ·rename_i hc
    obtain ⟨y,D,o,A⟩:=za h;refine Y _ _ _ _ _ hl A (L _ _ _ _ o (zt hE)) (XQ ⟨?_,fun h=>absurd h (by decide),fun h=>absurd h (by decide),fun h=>absurd h (by decide)⟩ (zae he (J _ _ _ _ (by omega) o (zt hE))))
    have I:0<levelOf (zv ts).s:=by omega
    show yQ 7 _ 0 2=true
    simp [yQ,I]
   ·obtain ⟨rfl,rfl⟩:=zk h;exact he
  ·rw [Zg] at h
   split at h
   ·rename_i hc
    obtain ⟨y,D,o,A⟩:=za h;obtain ⟨rfl,rfl⟩:=zk A;refine XQ ⟨?_,fun h=>absurd h (by decide),fun h=>absurd h (by decide),fun h=>absurd h (by decide)⟩ (xT (W _ _ _ o (zt hE)))
    show yQ 6 _ 0 1=true
    rcases hc.2 with h9 | h9 <;> simp [yQ,h9]
   ·obtain ⟨y,D,o,A⟩:=za h
    exact T _ _ _ _ A (j5 _ _ _ o hE) (i5 _ _ _ o hE)
  ·rw [zw] at h
   split at h
   ·obtain ⟨y,D,o,A⟩:=za h
    obtain ⟨z,N,H,G⟩:=za A;exact T _ _ _ _ G (Zb H (L _ _ _ _ o (zt hE))) (XQ ⟨rfl,fun h=>absurd h (by decide),fun h=>absurd h (by decide),fun h=>absurd h (by decide)⟩ (zae he (J _ _ _ _ (by omega) o (zt hE))))
   split at h
   ·obtain ⟨y,D,o,A⟩:=za h
    exact T _ _ _ _ A (Z9 o (zt hE)) (XQ ⟨rfl,fun h=>absurd h (by decide),fun h=>absurd h (by decide),fun _=>xG o (zt hE)⟩ (xT he))
   ·obtain ⟨rfl,rfl⟩:=zk h;exact he
  ·have I:=vM.hd hE
   rw [zC] at h
   split at h
   ·obtain ⟨rfl,rfl⟩:=zk h;exact XQ ⟨rfl,fun _=>I.num,fun h=>absurd h (by decide),fun h=>absurd h (by decide)⟩ trivial
   split at h
   ·rename_i O
    obtain ⟨rfl,rfl⟩:=zk h;exact XQ ⟨rfl,fun h=>absurd h (by decide),fun _=>I.text O,fun h=>absurd h (by decide)⟩ trivial
   split at h
   ·rename_i O
    split at h
    ·obtain ⟨y,D,o,A⟩:=za h
     obtain ⟨rfl,rfl⟩:=zk A;exact XQ ⟨rfl,fun h=>absurd h (by decide),fun h=>absurd h (by decide),fun _=>I.name O⟩ (i7 _ _ _ o (zt hE))
    ·obtain ⟨rfl,rfl⟩:=zk h;exact XQ ⟨rfl,fun h=>absurd h (by decide),fun h=>absurd h (by decide),fun _=>I.name O⟩ trivial
   split at h
   ·obtain ⟨rfl,rfl⟩:=zk h;exact XQ ⟨rfl,fun h=>absurd h (by decide),fun h=>absurd h (by decide),fun h=>absurd h (by decide)⟩ trivial
   split at h
   ·obtain ⟨rfl,rfl⟩:=zk h;exact XQ ⟨rfl,fun h=>absurd h (by decide),fun h=>absurd h (by decide),fun h=>absurd h (by decide)⟩ trivial
   split at h
   ·obtain ⟨y,D,o,A⟩:=za h
    obtain ⟨z,N,H,G⟩:=za A;obtain ⟨rfl,rfl⟩:=zk G;exact XQ ⟨rfl,fun h=>absurd h (by decide),fun h=>absurd h (by decide),fun _=>xG o (zt hE)⟩ (i7 _ _ _ H (Z9 o (zt hE)))
   split at h
   ·obtain ⟨y,D,o,A⟩:=za h
    obtain ⟨z,N,H,G⟩:=za A;obtain ⟨rfl,rfl⟩:=zk G;obtain ⟨g1,g2⟩:=Q _ _ _ _ o (zt hE) trivial;refine XQ ⟨?_,fun h=>absurd h (by decide),fun h=>absurd h (by decide),fun h=>absurd h (by decide)⟩ g1
    have g3:1≤y.length:=List.length_pos_iff.2 g2;show yQ 10 [] 0 y.length=true
    simp [yQ,g3]
   ·obtain ⟨y,D,o,A⟩:=za h
    obtain ⟨z,N,H,G⟩:=za A;obtain ⟨z',R,h5,U⟩:=za G;obtain ⟨rfl,rfl⟩:=zk U;exact J _ _ _ _ (by omega) H (Zb o hE)
  ·rw [ZY] at h
   obtain ⟨y,D,o,A⟩:=za h;have V:=L _ _ _ _ o hE;have Z:=zfR he (J _ _ _ _ (by omega) o hE)
   split at A
   ·exact Q _ _ _ _ A (zt V) Z
   ·obtain ⟨rfl,rfl⟩:=zk A;exact ⟨Z,by simp⟩
  ·rw [zA] at h
   obtain ⟨y,D,o,A⟩:=za h;have V:=Zb o hE
   split at A
   ·obtain ⟨rfl,rfl⟩:=zk A;trivial
   ·obtain ⟨z,N,H,G⟩:=za A
    obtain ⟨z',R,h5,U⟩:=za G;obtain ⟨rfl,rfl⟩:=zk U;exact (Q _ _ _ _ H V trivial).1
abbrev So (o:Option (List UInt8)):Prop:=∃t,o=some t
theorem So.s (u:List UInt8):So (some u):=⟨u,rfl⟩
theorem So.then {a b:Option (List UInt8)} (ha:So a) (hb:So b):So (zc a b):=by
 obtain ⟨u,rfl⟩:=ha;obtain ⟨v,rfl⟩:=hb;exact ⟨u++v,rfl⟩
theorem So.tok {k n:Int} {s:List UInt8} (h:ZO k n s):So (tokO k n s):=by
 refine ⟨xI k n s,?_⟩
 unfold tokO tkB
 rw [if_pos h]
 rfl
theorem So.kid {x:Ez} {least:Nat} {o:Option (List UInt8)} (h:So o):So (kidO x least o):=by
 unfold kidO
 split
 ·exact h
 ·exact (So.s _).then (h.then (So.s _))
theorem So.row {l:List (Option (List UInt8))}:∀i,i≤l.length→(∀o∈l,So o)→So (rowO l i)
 | 0,_,_=>So.s _
 | i+1,hi,h=>by
  unfold rowO
  refine (So.row i (by omega) h).then ((So.s _).then ?_)
  rw [List.getElem?_eq_getElem (by omega)]
  exact h _ (List.getElem_mem ..)
theorem zdg:∀(d:Nat) (e:Ex),gdE e→zO e≤d→So (prE d (Xr e))
 | 0,.mk k s n kids line,_,hd=>by rw [zO] at hd;omega
 | d+1,.mk k s n kids line,hg,hd=>by
  rw [gdE] at hg;obtain ⟨⟨h,L,J,A⟩,I⟩:=hg;rw [zO] at hd;have z:∀x∈kids,So (prE d (Xr x)):=fun x D=>zdg d x (zdf I x D) (by have:=xA D;omega)
  rw [Xr,X8,VR]
  have H:So (rowO ((kids.map Xr).map (prE d)) (kids.map Xr).length):=So.row _ (by simp) fun o ho=>by
   obtain ⟨y,N,rfl⟩:=List.mem_map.1 ho;obtain ⟨x,D,rfl⟩:=List.mem_map.1 N;exact z x D
  have G:yQ k s n (kids.map Xr).length=true:=by rw [List.length_map];exact h
  unfold prB
  rw [if_pos G]
  unfold yQ at h
  by_cases h1:(k:Int)=1
  ·rw [if_pos h1];exact So.tok (L (by omega))
  rw [if_neg h1] at h ⊢
  by_cases h2:(k:Int)=2
  ·rw [if_pos h2];exact So.s _
  rw [if_neg h2] at h ⊢
  by_cases h3:(k:Int)=3
  ·rw [if_pos h3];exact So.tok (J (by omega))
  rw [if_neg h3] at h ⊢
  by_cases h4:(k:Int)=4
  ·rw [if_pos h4];exact So.tok (A (by omega))
  rw [if_neg h4] at h ⊢
  by_cases h5:(k:Int)=5
  ·rw [if_pos h5];exact (So.tok (A (by omega))).then ((So.s _).then (H.then (So.s _)))
  rw [if_neg h5] at h ⊢
  by_cases h11:(k:Int)=11
  ·rw [if_pos h11];exact (So.s _).then ((So.tok (A (by omega))).then ((So.s _).then (H.then (So.s _))))
  rw [if_neg h11] at h ⊢
  by_cases h10:(k:Int)=10
  ·rw [if_pos h10];exact (So.s _).then (H.then (So.s _))
  rw [if_neg h10] at h ⊢
  by_cases h6:(k:Int)=6
  ·rw [if_pos h6] at h ⊢
   simp at h
   obtain ⟨a,rfl⟩:=List.length_eq_one_iff.1 h.1.2;exact (So.s _).then (So.kid (z a (by simp)))
  rw [if_neg h6] at h ⊢
  by_cases h7:(k:Int)=7
  ·rw [if_pos h7] at h ⊢
   simp at h
   match kids,h.1.2,z with
   | [a,b],_,z=>exact (So.kid (z a (by simp))).then ((So.s _).then ((So.s _).then ((So.s _).then (So.kid (z b (by simp))))))
  rw [if_neg h7] at h ⊢
  by_cases h8:(k:Int)=8
  ·rw [if_pos h8] at h ⊢
   simp at h
   match kids,h.1.2,z with
   | [a,b],_,z=>exact (So.kid (z a (by simp))).then ((So.s _).then ((z b (by simp)).then (So.s _)))
  rw [if_neg h8] at h ⊢
  by_cases h9:(k:Int)=9
  ·rw [if_pos h9] at h ⊢
   simp at h
   obtain ⟨a,rfl⟩:=List.length_eq_one_iff.1 h.2;exact (So.kid (z a (by simp))).then ((So.s _).then (So.tok (A (by omega))))
  ·rw [if_neg h9] at h
   cases h
mutual
def gdS:St→Prop
 | .mk k s es body els _=>Ye k s (ye es) body.length els.length=true∧(k=1→ZO 1 0 s)∧gdL es∧uV body∧uV els
def uV:List St→Prop
 | []=>True
 | x::xs=>gdS x∧uV xs
end
theorem uN {k:Nat} {s:List UInt8} {es:List Ex} {b c:List St} {line:Nat} (h:Ye k s (ye es) b.length c.length=true) (hs:k=1→ZO 1 0 s) (he:gdL es) (hb:uV b) (hc:uV c):gdS (.mk k s es b c line):=by
 rw [gdS];exact ⟨h,hs,he,hb,hc⟩
theorem zei {l:List St} {x:St} (h:uV l) (g:gdS x):uV (l++[x]):=by
 induction l with
 | nil=>exact ⟨g,trivial⟩
 | cons y ys ih=>exact ⟨h.1,ih h.2⟩
theorem qe {l:List St} (h:uV l):∀x∈l,gdS x:=by
 induction l with
 | nil=>intro x o;cases o
 | cons y ys ih =>
  intro x o;rcases List.mem_cons.1 o with rfl | o
  ·exact h.1
  ·exact ih h.2 x o
theorem zhg {e:Ex} (h:yX e=true):x9 (Xr e)=true:=by
 obtain ⟨k,s,n,kids,line⟩:=e
 have o:k=4∨k=8∨k=9:=by
  unfold yX Ex.kind at h
  simp at h
  omega
 rw [Xr];rcases o with rfl | rfl | rfl <;> rfl
theorem zej (f:Nat) :
  (∀ts x us,Ze f ts=some (.ok (x,us))→(∀t∈ts,vM t)→gdS x)∧(∀ts x us,zH f ts=some (.ok (x,us))→(∀t∈ts,vM t)→uV x)∧(∀pre ts x us,Zd f pre ts=some (.ok (x,us))→(∀t∈ts,vM t)→uV pre→uV x):=by
 induction f with
 | zero=>refine ⟨?_,?_,?_⟩ <;> intros <;> simp_all [Ze,zH,Zd]
 | succ f ih =>
  obtain ⟨R,D,L⟩:=ih;obtain ⟨O,Q,U⟩:=zab (P:=vM) f;have J:=fun ts x us h hW=>(vu (P:=vM) f).1 1 ts x us h hW
  have z:=fun ts x us h hW=>(zcA f).1 1 ts x us (by omega) h hW
  refine ⟨fun ts x us h hW=>?_,fun ts x us h hW=>?_,fun pre ts x us h hW hp=>?_⟩
  ·rw [Ze] at h
   split at h
   ·obtain ⟨_,_,o,h⟩:=za h
    obtain ⟨_,_,y,h⟩:=za h;obtain ⟨_,_,A,h⟩:=za h;obtain ⟨_,_,T,h⟩:=za h;obtain ⟨rfl,rfl⟩:=zk h;exact uN rfl (fun _=>xG o (zt hW)) (xT (z _ _ _ A (Zb y (Z9 o (zt hW))))) trivial trivial
   split at h
   ·obtain ⟨_,_,o,h⟩:=za h
    obtain ⟨_,_,y,h⟩:=za h;have G:=J _ _ _ o (zt hW);have H:=Q _ _ _ y G;have N:=xT (z _ _ _ o (zt hW))
    split at h
    ·obtain ⟨_,_,A,h⟩:=za h
     obtain ⟨rfl,rfl⟩:=zk h;exact uN (by simp [Ye,hasX,ye]) (fun h=>absurd h (by decide)) N (D _ _ _ y G) (D _ _ _ A (zt H))
    ·obtain ⟨rfl,rfl⟩:=zk h
     exact uN (by simp [Ye,hasX,ye]) (fun h=>absurd h (by decide)) N (D _ _ _ y G) trivial
   split at h
   ·obtain ⟨_,_,o,h⟩:=za h
    obtain ⟨_,_,y,h⟩:=za h;obtain ⟨rfl,rfl⟩:=zk h;exact uN (by simp [Ye,hasX,ye]) (fun h=>absurd h (by decide)) (xT (z _ _ _ o (zt hW))) (D _ _ _ y (J _ _ _ o (zt hW))) trivial
   split at h
   ·split at h
    ·obtain ⟨rfl,rfl⟩:=zk h
     exact uN rfl (fun h=>absurd h (by decide)) trivial trivial trivial
    ·obtain ⟨_,_,o,h⟩:=za h
     obtain ⟨_,_,y,h⟩:=za h;obtain ⟨rfl,rfl⟩:=zk h;exact uN rfl (fun h=>absurd h (by decide)) (xT (z _ _ _ o (zt hW))) trivial trivial
   ·obtain ⟨_,_,o,h⟩:=za h
    have H:=J _ _ _ o hW
    split at h
    ·split at h
     ·rename_i I
      obtain ⟨_,_,y,h⟩:=za h;obtain ⟨_,_,A,h⟩:=za h;obtain ⟨rfl,rfl⟩:=zk h;exact uN (by simp [Ye,hasX,ye,zhg I]) (fun h=>absurd h (by decide)) (zae (z _ _ _ o hW) (z _ _ _ y (zt H))) trivial trivial
     ·cases h
    ·obtain ⟨_,_,y,h⟩:=za h
     obtain ⟨rfl,rfl⟩:=zk h;exact uN rfl (fun h=>absurd h (by decide)) (xT (z _ _ _ o hW)) trivial trivial
  ·rw [zH] at h
   obtain ⟨_,_,o,h⟩:=za h;exact L _ _ _ _ h (Zb o hW) trivial
  ·rw [Zd] at h
   split at h
   ·obtain ⟨rfl,rfl⟩:=zk h
    exact hp
   ·obtain ⟨_,_,o,h⟩:=za h
    exact L _ _ _ _ h (O _ _ _ o hW) (zei hp (R _ _ _ o hW))
theorem zek (l:List UInt8):xx (91::(l++[93]))=true∧Yq (91::(l++[93]))=l:=by
 refine ⟨?_,by simp [Yq]⟩
 unfold xx Lib.hasPrefix Lib.hasSuffix
 rw [Bool.and_eq_true];exact ⟨by simp [List.isPrefixOf],List.isSuffixOf_iff_suffix.2 ⟨91::l,by simp⟩⟩
theorem zel {n:List UInt8} (h:ZO 1 0 n):xx n=false:=by
 obtain ⟨-,c,r,rfl,z⟩:=Lx.name (t:=n) (s:=n) (by
  obtain ⟨t,o⟩:=So.tok h;rw [o]
  have:=(Xp o (by decide)).2
  rw [this];rfl)
 unfold xx Lib.hasPrefix
 have y:(91==c)=false:=by
  rw [beq_eq_false_iff_ne];rintro rfl;rcases (ZR (k:=1) (n:=0) (by decide) (by decide)).1 h with ⟨h,-⟩ | ⟨-,h,-⟩ | ⟨h,-⟩ | ⟨h,-⟩
  ·exact absurd h (by decide)
  ·unfold Y3 at h
   simp only at h;rw [Bool.and_eq_true,Bool.and_eq_true,Bool.and_eq_true] at h;exact absurd h.1.1.1 (by decide)
  ·exact absurd h (by decide)
  ·exact absurd h (by decide)
 simp [List.isPrefixOf,y]
theorem qg {n:List UInt8} (h:ZO 1 0 n):∀k,ZF (List.replicate k 91++n++List.replicate k 93)=n
 | 0=>by
  rw [List.replicate_zero,List.replicate_zero,List.append_nil,List.nil_append];exact XD (zel h)
 | k+1=>by
  have e:List.replicate (k+1) 91++n++List.replicate (k+1) 93=91::((List.replicate k 91++n++List.replicate k 93)++[93]):=by
   rw [List.replicate_succ,List.replicate_succ' (n:=k) (a:=(93:UInt8))];simp
  obtain ⟨y,o⟩:=zek (List.replicate k 91++n++List.replicate k 93);rw [e,Vl y,o];exact qg h k
theorem Vy:∀(ts:List Tk) (k:Nat) (s:List UInt8) (us:List Tk),ZB k ts=.ok (s,us)→(∀t∈ts,vM t)→ZO 1 0 (ZF s)
 | [],k,s,us,h,_=>by simp [ZB] at h
 | t::ts,k,s,us,h,hM=>by
  rw [ZB] at h
  split at h
  ·exact Vy ts (k+1) s us h fun x hx=>hM x (List.mem_cons_of_mem _ hx)
  ·split at h
   ·rename_i y
    have o:=(hM t (List.mem_cons_self ..)).name y;cases hc:ZS k ts with
    | error a=>rw [hc] at h;simp [Xg] at h
    | ok vs =>
     rw [hc] at h;simp only [Xg,Except.ok.injEq,Prod.mk.injEq] at h;obtain ⟨rfl,-⟩:=h;rw [qg o];exact o
   ·cases h
def gdP (p:Pm):Prop:=ZO 1 0 p.1∧ZO 1 0 (ZF p.2)
theorem VX:∀(f:Nat) (o l:List Pm) (ts z:List Tk),zN f o ts=some (.ok (l,z))→(∀t∈ts,vM t)→(∀p∈o,gdP p)→(∀p∈l,gdP p)∧l≠[]:=by
 intro f
 induction f with
 | zero=>intro o l ts z h;simp [zN] at h
 | succ f ih =>
  intro o l ts z h D H;rw [zN] at h
  unfold Z8 at h
  by_cases h1:(zv ts).k=1
  ·rw [if_pos h1] at h
   by_cases h2:zm (zv ts.tail) [58]=true
   ·rw [if_pos h2] at h
    cases hs:ZB 0 ts.tail.tail with
    | error a=>rw [hs] at h;simp at h
    | ok p =>
     obtain ⟨s,L⟩:=p;rw [hs] at h;have I:=vv _ _ _ _ hs (zt (zt D));have y:=Vy _ _ _ _ hs (zt (zt D));have J:=(vM.hd D).name h1
     have G:∀p∈o++[((zv ts).s,s)],gdP p:=fun p hp2=>by
      rcases List.mem_append.1 hp2 with A | A
      ·exact H p A
      ·obtain rfl:=List.mem_singleton.1 A
       exact ⟨J,y⟩
     simp only at h
     split at h
     ·exact ih _ _ _ _ h (zt I) G
     ·obtain ⟨rfl,rfl⟩:=zk h
      exact ⟨G,by simp⟩
   ·rw [if_neg h2] at h
    simp at h
  ·rw [if_neg h1] at h
   simp at h
theorem zcB {f:Nat} {ts us:List Tk} {l:List Pm} (h:yo f ts=some (.ok (l,us))) (hP:∀t∈ts,vM t):∀p∈l,gdP p:=by
 unfold yo at h
 obtain ⟨_,A,G,h⟩:=za h;have y:=Zb G hP
 split at h
 ·obtain ⟨rfl,rfl⟩:=zk h
  intro p o;cases o
 ·obtain ⟨_,H,z,h⟩:=za h
  obtain ⟨_,D,I,h⟩:=za h;obtain ⟨rfl,rfl⟩:=zk h;exact (VX _ _ _ _ _ z y fun p o=>by cases o).1
theorem zem {ts us:List Tk} {s:List UInt8} (h:xK ts=some (.ok (s,us))) (hP:∀t∈ts,vM t):s=[]∨ZO 1 0 (ZF s):=by
 unfold xK at h
 split at h
 ·exact .inr (Vy _ _ _ _ (Option.some.inj h) (zt hP))
 ·obtain ⟨rfl,rfl⟩:=zk h
  exact .inl rfl
def gdR (x:Rc):Prop:=ZO 1 0 x.name∧(∀p∈x.fields,gdP p)∧x.fields≠[]
def gdF (x:Fc):Prop:=ZO 1 0 x.name∧(∀p∈x.params,gdP p)∧(x.result=[]∨ZO 1 0 (ZF x.result))∧uV x.body
theorem zaf {f line:Nat} {ts us:List Tk} {x:Rc} (h:Zl f line ts=some (.ok (x,us))) (hP:∀t∈ts,vM t):gdR x:=by
 unfold Zl at h
 obtain ⟨_,_,o,h⟩:=za h;obtain ⟨_,_,y,h⟩:=za h;obtain ⟨_,_,z,h⟩:=za h;obtain ⟨_,_,A,h⟩:=za h;obtain ⟨rfl,rfl⟩:=zk h;exact ⟨xG o hP,VX _ _ _ _ _ z (Zb y (Z9 o hP)) fun p hp=>by cases hp⟩
theorem zcC {f line:Nat} {ts us:List Tk} {x:Fc} (h:ZX f line ts=some (.ok (x,us))) (hP:∀t∈ts,vM t):gdF x:=by
 unfold ZX at h
 obtain ⟨_,_,G,h⟩:=za h;obtain ⟨_,_,A,h⟩:=za h;obtain ⟨_,_,D,h⟩:=za h;obtain ⟨_,_,H,h⟩:=za h;obtain ⟨rfl,rfl⟩:=zk h;have y:=Z9 G hP;have o:=UQ A y;have z:=QY D o;exact ⟨xG G hP,zcB A y,zem D o,(zej f).2.1 _ _ _ H z⟩
def gdG (x:Pg):Prop:=(∀r∈x.recs,gdR r)∧∀g∈x.funs,gdF g
theorem zbt {α:Type} {P:α→Prop} {l:List α} {x:α} (h:∀y∈l,P y) (g:P x):∀y∈l++[x],P y:=fun y hy=>by
 rcases List.mem_append.1 hy with o | o
 ·exact h y o
 ·obtain rfl:=List.mem_singleton.1 o
  exact g
theorem uw:∀(f:Nat) (rs:List Rc) (fs:List Fc) (ts:List Tk) (x:Pg) (us:List Tk),Zm f rs fs ts=some (.ok (x,us))→(∀t∈ts,vM t)→(∀r∈rs,gdR r)→(∀g∈fs,gdF g)→gdG x
 | 0,_,_,_,_,_,h,_,_,_=>by simp [Zm] at h
 | f+1,rs,fs,ts,x,us,h,hP,hr,hf=>by
  rw [Zm] at h
  by_cases c0:(zv ts).k=0
  ·rw [if_pos c0] at h
   obtain ⟨rfl,rfl⟩:=zk h;exact ⟨hr,hf⟩
  rw [if_neg c0] at h
  by_cases c1:zm (zv ts) [114,101,99,111,114,100]=true
  ·rw [if_pos c1] at h
   obtain ⟨y,A,o,z⟩:=za h;exact uw f _ _ _ _ _ z (UR o (zt hP)) (zbt hr (zaf o (zt hP))) hf
  rw [if_neg c1] at h
  by_cases c2:zm (zv ts) [102,110]=true
  ·rw [if_pos c2] at h
   obtain ⟨y,A,o,z⟩:=za h;exact uw f _ _ _ _ _ z (Qs o (zt hP)) hr (zbt hf (zcC o (zt hP)))
  ·rw [if_neg c2] at h
   simp at h
theorem So.cat {l:List (Option (List UInt8))}:∀i,i≤l.length→(∀o∈l,So o)→So (yL l i)
 | 0,_,_=>So.s _
 | i+1,hi,h=>by
  unfold yL
  refine (So.cat i (by omega) h).then ?_
  rw [List.getElem?_eq_getElem (by omega)]
  exact h _ (List.getElem_mem ..)
theorem So.blk {f:Sz→Option (List UInt8)} {l:List St} (h:∀x∈l,So (f (uS x))):So (blkO f (yF l)):=by
 rw [VS];refine (So.s _).then ((So.cat _ (by simp) fun o ho=>?_).then (So.s _))
 obtain ⟨y,z,rfl⟩:=List.mem_map.1 ho;obtain ⟨x,A,rfl⟩:=List.mem_map.1 z;exact h x A
theorem qh:∀(d:Nat) (x:St),gdS x→Zo x≤d→So (prS d (uS x))
 | 0,.mk k s es body els line,_,hd=>by rw [Zo] at hd;omega
 | d+1,.mk k s es body els line,hg,hd=>by
  rw [gdS] at hg;obtain ⟨A,L,ge,J,N⟩:=hg;rw [Zo] at hd;have z:∀x∈es,So (prE d (Xr x)):=fun x h=>zdg d x (zdf ge x h) (by have:=xA h;omega)
  have H:So (blkO (prS d) (yF body)):=So.blk fun x h=>qh d x (qe J x h) (by have:=yZ h;omega)
  have I:So (blkO (prS d) (yF els)):=So.blk fun x h=>qh d x (qe N x h) (by have:=yZ h;omega)
  rw [uS,vo];have D:Ye k s (ye es) (yF body).length (yF els).length=true:=by rw [VS,VS,List.length_map,List.length_map];exact A
  unfold prT
  rw [if_pos D]
  have h:hasX k (ye es)=true:=by
   unfold Ye at A
   rw [Bool.and_eq_true,Bool.and_eq_true,Bool.and_eq_true] at A;exact A.1.1.1
  unfold hasX at h
  match es,z,h with
  | [],_,h =>
   by_cases h6:(k:Int)=6
   ·rw [h6]
    exact (So.s _).then (So.s _)
   ·simp [ye,h6] at h
  | [a],z,h =>
   have y:=z a (List.mem_cons_self ..);show So (if (k:Int)=1 then _ else _)
   by_cases h1:(k:Int)=1
   ·rw [if_pos h1];exact (So.s _).then ((So.tok (L (by omega))).then ((So.s _).then (y.then (So.s _))))
   rw [if_neg h1]
   by_cases o:(k:Int)=2
   ·rw [o] at h;simp [ye] at h
   rw [if_neg o]
   by_cases h6:(k:Int)=6
   ·rw [if_pos h6];exact (So.s _).then ((So.s _).then (y.then (So.s _)))
   rw [if_neg h6]
   by_cases h7:(k:Int)=7
   ·rw [if_pos h7];exact y.then (So.s _)
   rw [if_neg h7]
   by_cases h4:(k:Int)=4
   ·rw [if_pos h4];exact (So.s _).then (y.then ((So.s _).then (H.then ((So.s _).then (I.then (So.s _))))))
   rw [if_neg h4];exact (So.s _).then (y.then ((So.s _).then (H.then (So.s _))))
  | a::b::cs,z,h =>
   have y:=z a (List.mem_cons_self ..);have G:=z b (List.mem_cons_of_mem _ (List.mem_cons_self ..))
   have o:(k:Int)=2:=by
    by_cases o:(k:Int)=2
    ·exact o
    ·simp [ye,o] at h
   rw [o];exact y.then ((So.s _).then (G.then (So.s _)))
theorem So.par {p:Pm} (h:gdP p):So (parO p):=(So.tok h.1).then ((So.s _).then ((So.s _).then ((So.tok h.2).then (So.s _))))
theorem So.pars {l:List Pm} (h:∀p∈l,gdP p):So (rowO (l.map parO) l.length):=So.row _ (by simp) fun o ho=>by
 obtain ⟨y,z,rfl⟩:=List.mem_map.1 ho;exact So.par (h y z)
theorem zfS {x:Rc} (h:gdR x):So (recO (rcz x).name (rcz x).fields):=by
 show So (recO x.name x.fields)
 unfold recO
 rw [if_pos (List.length_pos_iff.2 h.2.2)];exact (So.s _).then ((So.tok h.1).then ((So.s _).then ((So.pars h.2.1).then (So.s _))))
theorem zfT {x:Fc} (h:gdF x) (hd:depthSs x.body≤24):So (funO (fcz x)):=by
 obtain ⟨I,z,o,A⟩:=h;have G:So (blkO (prS 24) (yF x.body)):=So.blk fun y hy=>qh 24 y (qe A y hy) (by have:=yZ hy;omega)
 have H:So (if x.result=[] then some [] else zc (some [58,32]) (typeO x.result)):=by
  split
  ·exact So.s _
  ·rename_i D
   rcases o with o | o
   ·exact absurd o D
   ·exact (So.s _).then ((So.s _).then ((So.tok o).then (So.s _)))
 exact (So.s _).then ((So.tok I).then ((So.s _).then ((So.pars z).then ((So.s _).then (H.then ((So.s _).then (G.then (So.s _))))))))
theorem zfU {x:Pg} (h:gdG x) (hd:depthFs x.funs≤24):So (vd (VT x)):=by
 refine (So.cat _ (by simp) fun o ho=>?_).then (So.cat _ (by simp) fun o ho=>?_)
 ·obtain ⟨y,A,rfl⟩:=List.mem_map.1 ho
  obtain ⟨r,z,rfl⟩:=List.mem_map.1 A;exact zfS (h.1 r z)
 ·obtain ⟨y,A,rfl⟩:=List.mem_map.1 ho
  obtain ⟨r,z,rfl⟩:=List.mem_map.1 A;exact zfT (h.2 r z) (by have:=uH z;omega)
theorem zcD (l:List UInt8):∀t∈(zW l).1,vM t:=by
 intro t o
 by_cases h:(zW l).2.2=0
 ·obtain ⟨-,-,y,-,z,-⟩:=XI ((Ym l).2 h).2.1 t o
  exact ⟨y,by omega⟩
 ·rw [(Ym l).1 h] at o
  cases o
mutual
theorem zit (fl:Nat→Nat):∀x y:Ex,Xs fl x=Xs fl y→smE (Xr x) (Xr y)
 | .mk k s n kids line,.mk k' s' n' kids' line',h=>by
  rw [Xs,Xs] at h
  injection h with h1 h2 h3 h4 h5
  rw [Xr,Xr,smE];exact ⟨by rw [h1],h2,h3,zcE fl kids kids' h4⟩
theorem zcE (fl:Nat→Nat):∀l m:List Ex,YZ fl l=YZ fl m→YN (ye l) (ye m)
 | [],[],_=>by rw [ye,YN];trivial
 | [],y::ys,h=>by rw [YZ,YZ] at h;cases h
 | x::xs,[],h=>by rw [YZ,YZ] at h;cases h
 | x::xs,y::ys,h=>by
  rw [YZ,YZ] at h
  injection h with h1 h2
  rw [ye,ye,YN];exact ⟨zit fl x y h1,zcE fl xs ys h2⟩
end
mutual
theorem ziu (fl:Nat→Nat):∀x y:St,uU fl x=uU fl y→smS (uS x) (uS y)
 | .mk k s es b c line,.mk k' s' es' b' c' line',h=>by
  rw [uU,uU] at h
  injection h with h1 h2 h3 h4 h5 h6
  rw [uS,uS,smS];exact ⟨by rw [h1],h2,zcE fl es es' h3,Uh fl b b' h4,Uh fl c c' h5⟩
theorem Uh (fl:Nat→Nat):∀l m:List St,yA fl l=yA fl m→Y1 (yF l) (yF m)
 | [],[],_=>by rw [yF,Y1];trivial
 | [],y::ys,h=>by rw [yA,yA] at h;cases h
 | x::xs,[],h=>by rw [yA,yA] at h;cases h
 | x::xs,y::ys,h=>by
  rw [yA,yA] at h
  injection h with h1 h2
  rw [yF,yF,Y1];exact ⟨ziu fl x y h1,Uh fl xs ys h2⟩
end
theorem zfV {α β:Type} {g:α→β} {l m:List α} (h:l.map g=m.map g) {i:Nat} {a b:α} (ha:l[i]?=some a) (hb:m[i]?=some b):g a=g b:=by
 have:=congrArg (fun l=>l[i]?) h
 simp only [List.getElem?_map,ha,hb,Option.map_some,Option.some.injEq] at this;exact this
theorem zfW (fl:Nat→Nat) {x y:Pg} (h:qE fl x=qE fl y):SmP (VT x) (VT y):=by
 unfold qE at h
 injection h with h1 h2
 refine ⟨?_,?_,fun i a b ha hb=>?_,fun i a b ha hb=>?_⟩
 ·have:=congrArg List.length h1
  simpa [VT] using this
 ·have:=congrArg List.length h2
  simpa [VT] using this
 ·unfold VT at ha hb
  simp only [List.getElem?_map,Option.map_eq_some_iff] at ha hb;obtain ⟨u,z,rfl⟩:=ha;obtain ⟨v,A,rfl⟩:=hb;have o:=zfV h1 z A
  unfold zgR at o
  injection o with h4 h5 h6
  exact ⟨h4,h5⟩
 ·unfold VT at ha hb
  simp only [List.getElem?_map,Option.map_eq_some_iff] at ha hb;obtain ⟨u,z,rfl⟩:=ha;obtain ⟨v,A,rfl⟩:=hb;have o:=zfV h2 z A
  unfold zfu at o
  injection o with h4 h5 h6 h7 h8
  exact ⟨h4,h6,h5,Uh fl _ _ h7⟩
theorem zfX {a b:Ez} (h:smE a b):X7 a=X7 b∧VI a=VI b:=by
 obtain ⟨k,s,n,kids,line⟩:=a;obtain ⟨A,z,D,y,o⟩:=b;rw [smE] at h;obtain ⟨rfl,rfl,rfl,-⟩:=h;exact ⟨rfl,rfl⟩
theorem zag {a b:Ez} (h:smE a b) (least:Nat) (o:Option (List UInt8)):kidO a least o=kidO b least o:=by
 unfold kidO
 rw [(zfX h).1]
theorem zcF {g:Ez→Option (List UInt8)} (hg:∀a b,smE a b→g a=g b):∀{l m:List Ez},YN l m→l.map g=m.map g∧l.length=m.length
 | [],[],_=>⟨rfl,rfl⟩
 | [],_::_,h=>by rw [YN] at h;exact h.elim
 | _::_,[],h=>by rw [YN] at h;exact h.elim
 | x::xs,y::ys,h=>by
  rw [YN] at h;obtain ⟨z,o⟩:=zcF hg h.2;exact ⟨by rw [List.map_cons,List.map_cons,hg x y h.1,z],by rw [List.length_cons,List.length_cons,o]⟩
theorem zah:∀(d:Nat) (a b:Ez),smE a b→prE d a=prE d b
 | 0,a,b,_=>by rw [prE,prE]
 | d+1,.mk k s n kids line,.mk k' s' n' kids' line',h=>by
  rw [smE] at h;obtain ⟨rfl,rfl,rfl,o⟩:=h;have y:=zah d;obtain ⟨A,z⟩:=zcF y o;rw [X8,X8]
  unfold prB
  rw [A,z]
  match kids,kids',o with
  | [],[],_=>rfl
  | [a],[b],o =>
   rw [YN] at o;simp only [zag o.1,y a b o.1]
  | a::a2::qs,b::b2::bs,o =>
   rw [YN,YN] at o;simp only [zag o.1,y a b o.1,zag o.2.1,y a2 b2 o.2.1]
  | [],_::_,o=>rw [YN] at o;exact o.elim
  | _::_,[],o=>rw [YN] at o;exact o.elim
  | [a],b::b2::bs,o=>rw [YN,YN] at o;exact o.2.elim
  | a::a2::qs,[b],o=>rw [YN,YN] at o;exact o.2.elim
theorem Ui {g:Sz→Option (List UInt8)} (hg:∀a b,smS a b→g a=g b):∀{l m:List Sz},Y1 l m→l.map g=m.map g∧l.length=m.length
 | [],[],_=>⟨rfl,rfl⟩
 | [],_::_,h=>by rw [Y1] at h;exact h.elim
 | _::_,[],h=>by rw [Y1] at h;exact h.elim
 | x::xs,y::ys,h=>by
  rw [Y1] at h;obtain ⟨z,o⟩:=Ui hg h.2;exact ⟨by rw [List.map_cons,List.map_cons,hg x y h.1,z],by rw [List.length_cons,List.length_cons,o]⟩
theorem zcG {g:Sz→Option (List UInt8)} (hg:∀a b,smS a b→g a=g b) {l m:List Sz} (h:Y1 l m):blkO g l=blkO g m:=by
 obtain ⟨y,o⟩:=Ui hg h
 unfold blkO
 rw [y,o]
theorem zfY {a b:Ez} (h:smE a b):x9 a=x9 b:=by
 unfold x9
 rw [(zfX h).2]
theorem zhh {k:Int} {l m:List Ez} (h:YN l m):hasX k l=hasX k m:=by
 have o:=(zcF (g:=fun _=>none) (fun _ _ _=>rfl) h).2
 unfold hasX
 rw [o]
 match l,m,h with
 | [],[],_=>rfl
 | [a],[b],_=>rfl
 | [a,a2],[b,b2],h =>
  rw [YN] at h;simp only [zfY h.1]
 | a::a2::a3::qs,b::b2::b3::bs,_=>rfl
 | [],_::_,h=>rw [YN] at h;exact h.elim
 | _::_,[],h=>rw [YN] at h;exact h.elim
 | [a],b::b2::bs,h=>rw [YN,YN] at h;exact h.2.elim
 | a::a2::qs,[b],h=>rw [YN,YN] at h;exact h.2.elim
 | [a,a2],b::b2::b3::bs,h=>rw [YN,YN,YN] at h;exact h.2.2.elim
 | a::a2::a3::qs,[b,b2],h=>rw [YN,YN,YN] at h;exact h.2.2.elim
theorem zfZ:∀(d:Nat) (a b:Sz),smS a b→prS d a=prS d b
 | 0,a,b,_=>by rw [prS,prS]
 | d+1,.mk k s es body els line,.mk k' s' es' body' els' line',h=>by
  rw [smS] at h;obtain ⟨rfl,rfl,o,z,A⟩:=h;have y:=zfZ d;rw [vo,vo]
  unfold prT Ye
  rw [zhh o,(Ui y z).2,(Ui y A).2,zcG y z,zcG y A]
  match es,es',o with
  | [],[],_=>rfl
  | [a],[b],o =>
   rw [YN] at o;simp only [zah d a b o.1]
  | a::a2::qs,b::b2::bs,o =>
   rw [YN,YN] at o;simp only [zah d a b o.1,zah d a2 b2 o.2.1]
  | [],_::_,o=>rw [YN] at o;exact o.elim
  | _::_,[],o=>rw [YN] at o;exact o.elim
  | [a],b::b2::bs,o=>rw [YN,YN] at o;exact o.2.elim
  | a::a2::qs,[b],o=>rw [YN,YN] at o;exact o.2.elim
theorem zf0 {α β:Type} {g:α→β} {l m:List α} (hl:l.length=m.length) (h:∀(i:Nat) (a b:α),l[i]?=some a→m[i]?=some b→g a=g b):l.map g=m.map g:=by
 apply List.ext_getElem?
 intro i;rw [List.getElem?_map,List.getElem?_map]
 by_cases hi:i<l.length
 ·have y:=List.getElem?_eq_getElem hi
  have o:=List.getElem?_eq_getElem (show i<m.length by omega)
  rw [y,o];exact congrArg some (h i _ _ y o)
 ·rw [List.getElem?_eq_none (by omega),List.getElem?_eq_none (by omega)]
theorem zhi {x y:Pz} (h:SmP x y):vd x=vd y:=by
 unfold vd
 rw [h.rl,h.fl,zf0 (g:=fun r:Rz=>recO r.name r.fields) h.rl fun i a b ha hb=>by
  obtain ⟨z,o⟩:=h.r i a b ha hb
  simp only [z,o],zf0 (g:=funO) h.fl fun i a b ha hb=>by
  obtain ⟨z,o,A,D⟩:=h.f i a b ha hb
  unfold funO
  rw [z,o,A,zcG (zfZ 24) D]]
mutual
theorem zi3:∀x:Ex,VZ (Xr x)=Xs (fun _=>0) x
 | .mk k s n kids line=>by rw [Xr,VZ,Xs,zf1 kids];rfl
theorem zf1:∀l:List Ex,zzL (ye l)=YZ (fun _=>0) l
 | []=>by rw [ye,zzL,YZ]
 | x::xs=>by rw [ye,zzL,YZ,zi3 x,zf1 xs]
end
mutual
theorem zi4:∀x:St,zzS (uS x)=uU (fun _=>0) x
 | .mk k s es b c line=>by rw [uS,zzS,uU,zdh b,zdh c,←zc6,zf1 es];rfl
theorem zdh:∀l:List St,zzC (yF l)=yA (fun _=>0) l
 | []=>by rw [yF,zzC,yA]
 | x::xs=>by rw [yF,zzC,yA,zi4 x,zdh xs]
end
theorem zi5 (x:Pg):zzG (VT x)=qE (fun _=>0) x:=by
 unfold zzG VT qE
 simp only [List.map_map]
 congr 1
 apply List.map_congr_left
 intro y _;show (⟨y.name,y.params,y.result,zzC (yF y.body),0⟩:Fc)=_
 rw [zdh]
 rfl
theorem zai {fl fa:Nat→Nat} {us:List Tk} (h:us.map (Xb fl fa)=[eoT]):(zv us).k=0:=by
 cases us with
 | nil=>cases h
 | cons u us =>
  rw [List.map_cons] at h
  injection h with h1 h2
  have:=congrArg Tk.k h1
  exact this
theorem zen {s:List UInt8} {x:Pg} {a:Nat} (h:Z2 s x a 0):So (vd (VT x)):=by
 have hd:=(xi h).2.2;refine zfU ?_ hd
 unfold Z2 at h
 by_cases hc:(zW s).2.2≠0
 ·rw [if_pos hc] at h
  exact absurd h.2.2.symm hc
 rw [if_neg hc] at h;obtain ⟨f,r,G,o⟩:=h;rcases r with b | ⟨y,H⟩
 ·simp only [yi] at o
  exact absurd o.2.2 (by decide)
 ·have D:=uw f [] [] _ y H G (zcD s) (fun r hr=>by cases hr) (fun r hr=>by cases hr)
  unfold yi at o
  simp only at o
  split at o
  ·simp at o
  ·rename_i z A
   split at A
   ·obtain rfl:=Except.ok.inj A
    split at o
    ·simp at o
    ·obtain ⟨rfl,-,-⟩:=o
     exact D
   ·cases A
theorem zbu {s t:List UInt8} {x x':Pg} {a a' e':Nat} (h:Z2 s x a 0) (ht:vd (VT x)=some t) (hl:t.length≤4096) (h':Z2 t x' a' e'):e'=0∧SmP (VT x) (VT x')∧xM x'=xM x:=by
 have hd:=(xi h).2.2;obtain ⟨⟨Z,H⟩,⟨Y,G⟩⟩:=zea ht;obtain ⟨D,J⟩:=zd3 hl H
 unfold Z2 at h'
 rw [if_neg (by rw [D];decide)] at h'
 have Q:=XG t D;obtain ⟨f,r,T,z⟩:=h';have A:=Q4 (fun _=>0) (fun _=>0) f [] [] _ Q
 have U:(zW t).1.map (Xb (fun _=>0) (fun _=>0))=ktG (VT x)++[eoT]:=J
 rw [U,T] at A;rcases r with b | ⟨y,N⟩
 ·have o:=Vt G A
  cases o
 ·have o:=Vt G A
  injection o with h5
  injection h5 with h6 h7
  have L:=zai h7.symm;have V:yi (.ok (y,N))=.ok y:=by unfold yi;simp only [if_pos L]
  simp only [V] at z;rw [zi5] at h6
  have I:depthFs y.funs=depthFs x.funs:=by
   have O:depthFs (qE (fun _=>0) y).funs=depthFs y.funs:=Vx _ _
   have R:depthFs (qE (fun _=>0) x).funs=depthFs x.funs:=Vx _ _
   rw [←O,←R,h6]
  have W:xM y=xM x:=by rw [←zde (fun _=>0) x,←zde (fun _=>0) y,h6]
  rw [if_neg (by omega)] at z
  obtain ⟨rfl,-,rfl⟩:=z;exact ⟨rfl,zfW _ h6,W⟩
end Go.Proofs.YtpejpbbdgblbeaaGreatDoor
