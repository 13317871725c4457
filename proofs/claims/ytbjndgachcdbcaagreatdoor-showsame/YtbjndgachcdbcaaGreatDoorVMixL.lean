import Derived.Test.YtbjndgachcdbcaaGreatDoorMC7
namespace Go.Proofs.YtbjndgachcdbcaaGreatDoor
open Go Go.RowKit
section
variable {P:Program} {ops:Array Oper} {Q:Exit→Act→World→Prop} {md:Region.Mode} {S:World→Prop} {L:Nat}
def zO (P:Program) (md:Region.Mode) (ops:Array Oper) (Q:Exit→Act→World→Prop) (S:World→Prop) (L:Nat):Nat→Array Bool→Act→World→Prop
 | 0,listed,a,w=>Region.ready md ops listed=[]∧Q .normal a w
 | fuel+1,listed,a,w =>
  (Region.ready md ops listed=[]→Q .normal a w) ∧
  ∀i∈Region.ready md ops listed,wpOp P ops Q i (fun a' w'=>(i≠L→S w')∧zO P md ops Q S L fuel (listed.setIfInBounds i true) a' w') a w
theorem yG:∀(fuel:Nat) (listed:Array Bool) (a:Act) (w:World),zO P md ops Q S L fuel listed a w→wpAny P md ops Q fuel listed a w
 | 0,_,_,_,h=>h
 | fuel+1,_,_,_,h=>⟨h.1,fun i hi=>wpOp_mono (fun a' w' h'=>yG fuel _ a' w' h'.2) (h.2 i hi)⟩
def Xa (md:Region.Mode) (ops:Array Oper) (L i:Nat):Bool:=match ops[L]? with
 | some o=>o.after.any fun e=>Region.binds md e&&e.on==i
 | none=>false
theorem Xb {i:Nat} {oi:Oper} {v:Value} (hi:ops[i]?=some oi) (hsel:∀(j:Nat) (o:Oper) cs b,ops[j]?=some o→o.op≠.select cs b) (hL:Xa md ops L i=true)
  (hQ:∀c a w,Q (.panic c) (a.put oi.dst v) w→Q (.panic c) a w) :
  ∀(fuel:Nat) (m:Array Bool) (a:Act) (w:World),
   (∀j B,ops[j]?=some B→j≠i→m.getD j true=false→(∀e∈B.after,Region.binds md e=true→e.on≠i)→oi.apart ops B=true) →
   i∈Region.ready md ops m→YieldsIf P ops S oi v a→S w →
   zO P md ops Q S L fuel (m.setIfInBounds i true) (a.put oi.dst v) w→zO P md ops Q S L (fuel+1) m a w:=by
 intro fuel
 induction fuel with
 | zero =>
  intro m a w _ E K G H;refine ⟨fun h=>(by rw [h] at E;cases E),fun j hj=>?_⟩
  by_cases hji:j=i
  ·subst hji;exact K.wpOp hi G ⟨fun _=>G,H⟩
  ·have:=ready_mono hj hji
   rw [H.1] at this;cases this
 | succ fuel ih =>
  intro m a w q E K G H;refine ⟨fun h=>(by rw [h] at E;cases E),fun j hj=>?_⟩
  by_cases hji:j=i
  ·subst hji;exact K.wpOp hi G ⟨fun _=>G,H⟩
  ·have D:=H.2 j (ready_mono hj hji)
   obtain ⟨z,B,u,I⟩:=mem_ready.1 hj
   have A:∀e∈B.after,Region.binds md e=true→e.on≠i:=fun e O M F=>by
    have D:=I e O M;have T:=(mem_ready.1 E).1;rw [F] at D;rcases Nat.lt_or_ge i m.size with R | R
    ·simp [R] at T D;rw [T] at D;cases D
    ·simp [Array.getElem?_eq_none R] at D
   have J:j≠L:=fun e=>by
    subst e
    unfold Xa at hL
    rw [u] at hL;simp only [Array.any_eq_true',Bool.and_eq_true,beq_iff_eq] at hL;obtain ⟨e,O,M,F⟩:=hL;exact A e O M F
   have U:=wpOp_putIf u (q j B u hji z A) (fun cs b=>hsel i oi cs b hi) (fun cs b=>hsel j B cs b u) hQ K D
   have y:∀k ok,ops[k]?=some ok→k≠i→(m.setIfInBounds j true).getD k true=false →
     (∀e∈ok.after,Region.binds md e=true→e.on≠i)→oi.apart ops ok=true:=fun k ok hk hki hun hno=>by
    refine q k ok hk hki ?_ hno
    by_cases hjk:j=k
    ·subst hjk;exact z
    ·rw [getD_set_ne true hjk] at hun;exact hun
   refine wpOp_mono (fun a' w' h3=>⟨fun _=>h3.2.1 J,ih (m.setIfInBounds j true) a' w' y (ready_mono E (Ne.symm hji)) h3.1 (h3.2.1 J) ?_⟩) U
   rw [Array.setIfInBounds_comm _ _ hji];exact h3.2.2
end
section
variable {P:Program} {Q:Exit→Act→World→Prop} {md:Region.Mode} {S:World→Prop} {l:List Oper} {L:Nat}
def Uj (md:Region.Mode) (l:List Oper) (L:Nat):List Nat→Array Bool→Bool
 | [],_=>true
 | i::is,listed=>(match l.drop i with
  | o::_=>YD o.op
  | []=>false)&&Region.free md l.toArray listed i&&(Region.ready md l.toArray listed).contains i&&Xa md l.toArray L i&&Uj md l L is (listed.setIfInBounds i true)
theorem Y2 (hs:Region.noSelect l.toArray=true) (hQ:∀c a d v w,Q (.panic c) (a.put d v) w→Q (.panic c) a w) (fuel:Nat) (w:World) (hS:S w) :
  ∀(idx:List Nat) (listed:Array Bool) (a:Act),Uj md l L idx listed=true →
   wpQuiet P l.toArray S (fun a'=>zO P md l.toArray Q S L fuel (Z2 listed idx) a' w) (ZP l idx) a →
   zO P md l.toArray Q S L (fuel+idx.length) listed a w
 | [],_,_,_,h=>h
 | i::is,listed,a,hB,h=>by
  simp only [Uj,Bool.and_eq_true] at hB;obtain ⟨⟨⟨⟨e,F⟩,A⟩,E⟩,m⟩:=hB;cases hd:l.drop i with
  | nil=>rw [hd] at e;simp at e
  | cons o rest =>
   rw [hd] at e;have z:=ZQ hd
   have G:∃v,YieldsIf P l.toArray S o v a∧wpQuiet P l.toArray S (fun a'=>zO P md l.toArray Q S L fuel (Z2 listed (i::is)) a' w) (ZP l is) (a.put o.dst v):=by
    rw [show ZP l (i::is)=o::ZP l is by simp only [ZP,hd]] at h
    unfold wpQuiet at h
    split at h
    ·rename_i q
     obtain ⟨v,B,y⟩:=h;refine ⟨v,.inl ⟨q,fun w' hw'=>?_⟩,y⟩
     have b:=B w' hw'
     unfold Oper.quietAt at b
     cases hrun:(execOp a.eval o).run P w' with
     | ok n w2 =>
      rw [hrun] at b;obtain ⟨u,rfl⟩:=yv e hrun;obtain ⟨rfl,rfl⟩:=b
      rfl
     | halt x w2=>rw [hrun] at b;exact b.elim
    ·rename_i q
     exact ⟨undef,.inr ⟨by simpa using q,rfl⟩,h⟩
   obtain ⟨v,D,y⟩:=G;exact Xb z (Region.noSelect_spec hs) E (fun c a w=>hQ c a _ _ w) _ listed a w (Region.free_spec z F) (by simpa using A) D hS (Y2 hs hQ fuel w hS is _ _ m y)
theorem Xc {fuel fuel':Nat} {w:World} {idx:List Nat} {l':List Oper} {listed listed':Array Bool} {a:Act} (hB:(Region.noSelect l.toArray&&Uj md l L idx listed)=true) (hf:fuel+idx.length=fuel') (hl:l'=ZP l idx) (hL:listed'=Z2 listed idx)
  (hQ:∀c a d v w,Q (.panic c) (a.put d v) w→Q (.panic c) a w) (hS:S w) (h:wpQuiet P l.toArray S (fun a'=>zO P md l.toArray Q S L fuel listed' a' w) l' a):zO P md l.toArray Q S L fuel' listed a w:=by
 subst hf hl hL;rw [Bool.and_eq_true] at hB;exact Y2 hB.1 hQ fuel w hS idx listed a hB.2 h
theorem zP {fuel fuel':Nat} {w:World} {i:Nat} {o:Oper} {rest:List Oper} {listed listed':Array Bool} {a:Act} (hd:l.drop i=o::rest) (hr:Region.ready md l.toArray listed=[i]) (hf:fuel+1=fuel') (hL:listed'=listed.setIfInBounds i true)
  (hw:Region.wanted o (yielded l.toArray a.tmps)=true)
  (h:∀K:Act→World→Prop,Hid (∀a' w',(i≠L→S w')→zO P md l.toArray Q S L fuel listed' a' w'→K a' w')→o.wp P a w K Q):zO P md l.toArray Q S L fuel' listed a w:=by
 subst hf hL;refine ⟨fun h0=>(by rw [hr] at h0;cases h0),fun j hj=>?_⟩
 obtain rfl:j=i:=by rw [hr] at hj;simpa using hj
 have b:=h (fun a' w'=>(j≠L→S w')∧zO P md l.toArray Q S L fuel (listed.setIfInBounds j true) a' w') fun a' w' b h2=>⟨b,h2⟩
 unfold wpOp
 rw [ZQ hd];simp only [hw,if_true];exact .inl b
theorem Xd {fuel fuel':Nat} {w:World} {i:Nat} {o:Oper} {rest:List Oper} {listed listed':Array Bool} {a:Act} (hd:l.drop i=o::rest) (hr:Region.ready md l.toArray listed=[i]) (hf:fuel+1=fuel') (hL:listed'=listed.setIfInBounds i true)
  (hw:Region.wanted o (yielded l.toArray a.tmps)=true)
  (h:∀K:Act→World→Prop,Hid (∀a' w',(i≠L→S w')→zO P md l.toArray Q S L fuel listed' a' w'→K a' w')→if Region.wanted o (yielded l.toArray a.tmps)=true then o.wp P a w K Q else True):zO P md l.toArray Q S L fuel' listed a w :=
 zP hd hr hf hL hw fun K hK=>by have:=h K hK;rwa [if_pos hw] at this
theorem Y3 {listed:Array Bool} {a:Act} {w:World} (hr:Region.ready md l.toArray listed=[]) (h:Q .normal a w):zO P md l.toArray (NoPanic Q) S L 0 listed a w :=
 ⟨hr,NoPanic.normal h⟩
theorem xD {id:Nat} {a:Act} {w:World} {n:Nat} {listed:Array Bool} (L:Nat) (hm:P.follows .mixedOrders=true) (hn:n=l.length) (hL:listed=Array.replicate n false)
  (h:zO P .any l.toArray (NoPanic Q) S L n listed a w.drew):(Code.region id l.toArray true).wp P Q a w:=by
 subst hn hL;refine wp_region_noPanic (wp_region_any hm (yG (S:=S) (L:=L) _ _ _ _ ?_));rw [show l.toArray.size=l.length by simp]
 exact h
theorem VN {lp id:Nat} {a:Act} {w:World} {n m:Nat} {listed:Array Bool} (L:Nat) (hm:P.follows .mixedOrders=true) (hd:xQ l=true) (hQ:¬ LetsOut Q) (hn:n=l.length) (hL:listed=Array.replicate n false)
  (h:zO P .any l.toArray (NoPanic Q) S L n listed a w.drew):(Code.region id l.toArray true).wpIn (Fence.wide.inRound lp) m P Q a w:=by
 subst hn hL;refine wpIn_mono (Q:=NoPanic Q) (wpIn_region_any hm (yh (Q:=NoPanic Q) (xR hd) (fun ⟨a,w,h⟩=>hQ ⟨a,w,h⟩) _ _ _ _ (yG (S:=S) (L:=L) _ _ _ _ ?_))) NoPanic.imp
 rw [show l.toArray.size=l.length by simp]
 exact h
end
end Go.Proofs.YtbjndgachcdbcaaGreatDoor
