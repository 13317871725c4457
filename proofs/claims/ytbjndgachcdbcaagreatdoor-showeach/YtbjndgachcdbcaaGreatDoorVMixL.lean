import Derived.Test.YtbjndgachcdbcaaGreatDoorMC7
namespace Go.Proofs.YtbjndgachcdbcaaGreatDoor
open Go Go.RowKit
section
variable {P:Program} {ops:Array Oper} {Q:Exit→Act→World→Prop} {md:Region.Mode} {S:World→Prop} {L:Nat}
def zJ (P:Program) (md:Region.Mode) (ops:Array Oper) (Q:Exit→Act→World→Prop) (S:World→Prop) (L:Nat):Nat→Array Bool→Act→World→Prop
 | 0,listed,a,w=>Region.ready md ops listed=[]∧Q .normal a w
 | fuel+1,listed,a,w =>
  (Region.ready md ops listed=[]→Q .normal a w) ∧
  ∀i∈Region.ready md ops listed,wpOp P ops Q i (fun a' w'=>(i≠L→S w')∧zJ P md ops Q S L fuel (listed.setIfInBounds i true) a' w') a w
theorem yC:∀(fuel:Nat) (listed:Array Bool) (a:Act) (w:World),zJ P md ops Q S L fuel listed a w→wpAny P md ops Q fuel listed a w
 | 0,_,_,_,h=>h
 | fuel+1,_,_,_,h=>⟨h.1,fun i hi=>wpOp_mono (fun a' w' h'=>yC fuel _ a' w' h'.2) (h.2 i hi)⟩
def xO (md:Region.Mode) (ops:Array Oper) (L i:Nat):Bool:=match ops[L]? with
 | some o=>o.after.any fun e=>Region.binds md e&&e.on==i
 | none=>false
theorem xP {i:Nat} {oi:Oper} {v:Value} (hi:ops[i]?=some oi) (hsel:∀(j:Nat) (o:Oper) cs b,ops[j]?=some o→o.op≠.select cs b) (hL:xO md ops L i=true)
  (hQ:∀c a w,Q (.panic c) (a.put oi.dst v) w→Q (.panic c) a w) :
  ∀(fuel:Nat) (m:Array Bool) (a:Act) (w:World),
   (∀j D,ops[j]?=some D→j≠i→m.getD j true=false→(∀e∈D.after,Region.binds md e=true→e.on≠i)→oi.apart ops D=true) →
   i∈Region.ready md ops m→YieldsIf P ops S oi v a→S w →
   zJ P md ops Q S L fuel (m.setIfInBounds i true) (a.put oi.dst v) w→zJ P md ops Q S L (fuel+1) m a w:=by
 intro fuel
 induction fuel with
 | zero =>
  intro m a w _ B K J H;refine ⟨fun h=>(by rw [h] at B;cases B),fun j hj=>?_⟩
  by_cases hji:j=i
  ·subst hji;exact K.wpOp hi J ⟨fun _=>J,H⟩
  ·have:=ready_mono hj hji
   rw [H.1] at this;cases this
 | succ fuel ih =>
  intro m a w q B K J H;refine ⟨fun h=>(by rw [h] at B;cases B),fun j hj=>?_⟩
  by_cases hji:j=i
  ·subst hji;exact K.wpOp hi J ⟨fun _=>J,H⟩
  ·have F:=H.2 j (ready_mono hj hji)
   obtain ⟨z,D,y,G⟩:=mem_ready.1 hj
   have A:∀e∈D.after,Region.binds md e=true→e.on≠i:=fun e R O E=>by
    have F:=G e R O;have T:=(mem_ready.1 B).1;rw [E] at F;rcases Nat.lt_or_ge i m.size with M | M
    ·simp [M] at T F;rw [T] at F;cases F
    ·simp [Array.getElem?_eq_none M] at F
   have I:j≠L:=fun e=>by
    subst e
    unfold xO at hL
    rw [y] at hL;simp only [Array.any_eq_true',Bool.and_eq_true,beq_iff_eq] at hL;obtain ⟨e,R,O,E⟩:=hL;exact A e R O E
   have U:=wpOp_putIf y (q j D y hji z A) (fun cs b=>hsel i oi cs b hi) (fun cs b=>hsel j D cs b y) hQ K F
   have u:∀k ok,ops[k]?=some ok→k≠i→(m.setIfInBounds j true).getD k true=false →
     (∀e∈ok.after,Region.binds md e=true→e.on≠i)→oi.apart ops ok=true:=fun k ok hk hki hun hno=>by
    refine q k ok hk hki ?_ hno
    by_cases hjk:j=k
    ·subst hjk;exact z
    ·rw [getD_set_ne true hjk] at hun;exact hun
   refine wpOp_mono (fun a' w' h3=>⟨fun _=>h3.2.1 I,ih (m.setIfInBounds j true) a' w' u (ready_mono B (Ne.symm hji)) h3.1 (h3.2.1 I) ?_⟩) U
   rw [Array.setIfInBounds_comm _ _ hji];exact h3.2.2
end
section
variable {P:Program} {Q:Exit→Act→World→Prop} {md:Region.Mode} {S:World→Prop} {l:List Oper} {L:Nat}
def uK (md:Region.Mode) (l:List Oper) (L:Nat):List Nat→Array Bool→Bool
 | [],_=>true
 | i::is,listed=>(match l.drop i with
  | o::_=>Yv o.op
  | []=>false)&&Region.free md l.toArray listed i&&(Region.ready md l.toArray listed).contains i&&xO md l.toArray L i&&uK md l L is (listed.setIfInBounds i true)
theorem YS (hs:Region.noSelect l.toArray=true) (hQ:∀c a d v w,Q (.panic c) (a.put d v) w→Q (.panic c) a w) (fuel:Nat) (w:World) (hS:S w) :
  ∀(idx:List Nat) (listed:Array Bool) (a:Act),uK md l L idx listed=true →
   wpQuiet P l.toArray S (fun a'=>zJ P md l.toArray Q S L fuel (ZR listed idx) a' w) (ZH l idx) a →
   zJ P md l.toArray Q S L (fuel+idx.length) listed a w
 | [],_,_,_,h=>h
 | i::is,listed,a,hB,h=>by
  simp only [uK,Bool.and_eq_true] at hB;obtain ⟨⟨⟨⟨e,A⟩,E⟩,G⟩,y⟩:=hB;cases hd:l.drop i with
  | nil=>rw [hd] at e;simp at e
  | cons o rest =>
   rw [hd] at e;have z:=yG hd
   have F:∃v,YieldsIf P l.toArray S o v a∧wpQuiet P l.toArray S (fun a'=>zJ P md l.toArray Q S L fuel (ZR listed (i::is)) a' w) (ZH l is) (a.put o.dst v):=by
    rw [show ZH l (i::is)=o::ZH l is by simp only [ZH,hd]] at h
    unfold wpQuiet at h
    split at h
    ·rename_i m
     obtain ⟨v,D,q⟩:=h;refine ⟨v,.inl ⟨m,fun w' hw'=>?_⟩,q⟩
     have b:=D w' hw'
     unfold Oper.quietAt at b
     cases hrun:(execOp a.eval o).run P w' with
     | ok n w2 =>
      rw [hrun] at b;obtain ⟨u,rfl⟩:=yp e hrun;obtain ⟨rfl,rfl⟩:=b
      rfl
     | halt x w2=>rw [hrun] at b;exact b.elim
    ·rename_i m
     exact ⟨undef,.inr ⟨by simpa using m,rfl⟩,h⟩
   obtain ⟨v,B,q⟩:=F;exact xP z (Region.noSelect_spec hs) G (fun c a w=>hQ c a _ _ w) _ listed a w (Region.free_spec z A) (by simpa using E) B hS (YS hs hQ fuel w hS is _ _ y q)
theorem xQ {fuel fuel':Nat} {w:World} {idx:List Nat} {l':List Oper} {listed listed':Array Bool} {a:Act} (hB:(Region.noSelect l.toArray&&uK md l L idx listed)=true) (hf:fuel+idx.length=fuel') (hl:l'=ZH l idx) (hL:listed'=ZR listed idx)
  (hQ:∀c a d v w,Q (.panic c) (a.put d v) w→Q (.panic c) a w) (hS:S w) (h:wpQuiet P l.toArray S (fun a'=>zJ P md l.toArray Q S L fuel listed' a' w) l' a):zJ P md l.toArray Q S L fuel' listed a w:=by
 subst hf hl hL;rw [Bool.and_eq_true] at hB;exact YS hB.1 hQ fuel w hS idx listed a hB.2 h
theorem zK {fuel fuel':Nat} {w:World} {i:Nat} {o:Oper} {rest:List Oper} {listed listed':Array Bool} {a:Act} (hd:l.drop i=o::rest) (hr:Region.ready md l.toArray listed=[i]) (hf:fuel+1=fuel') (hL:listed'=listed.setIfInBounds i true)
  (hw:Region.wanted o (yielded l.toArray a.tmps)=true)
  (h:∀K:Act→World→Prop,Hid (∀a' w',(i≠L→S w')→zJ P md l.toArray Q S L fuel listed' a' w'→K a' w')→o.wp P a w K Q):zJ P md l.toArray Q S L fuel' listed a w:=by
 subst hf hL;refine ⟨fun h0=>(by rw [hr] at h0;cases h0),fun j hj=>?_⟩
 obtain rfl:j=i:=by rw [hr] at hj;simpa using hj
 have b:=h (fun a' w'=>(j≠L→S w')∧zJ P md l.toArray Q S L fuel (listed.setIfInBounds j true) a' w') fun a' w' b h2=>⟨b,h2⟩
 unfold wpOp
 rw [yG hd];simp only [hw,if_true];exact .inl b
theorem xR {fuel fuel':Nat} {w:World} {i:Nat} {o:Oper} {rest:List Oper} {listed listed':Array Bool} {a:Act} (hd:l.drop i=o::rest) (hr:Region.ready md l.toArray listed=[i]) (hf:fuel+1=fuel') (hL:listed'=listed.setIfInBounds i true)
  (hw:Region.wanted o (yielded l.toArray a.tmps)=true)
  (h:∀K:Act→World→Prop,Hid (∀a' w',(i≠L→S w')→zJ P md l.toArray Q S L fuel listed' a' w'→K a' w')→if Region.wanted o (yielded l.toArray a.tmps)=true then o.wp P a w K Q else True):zJ P md l.toArray Q S L fuel' listed a w :=
 zK hd hr hf hL hw fun K hK=>by have:=h K hK;rwa [if_pos hw] at this
theorem YT {listed:Array Bool} {a:Act} {w:World} (hr:Region.ready md l.toArray listed=[]) (h:Q .normal a w):zJ P md l.toArray (NoPanic Q) S L 0 listed a w :=
 ⟨hr,NoPanic.normal h⟩
theorem xt {id:Nat} {a:Act} {w:World} {n:Nat} {listed:Array Bool} (L:Nat) (hm:P.follows .mixedOrders=true) (hn:n=l.length) (hL:listed=Array.replicate n false)
  (h:zJ P .any l.toArray (NoPanic Q) S L n listed a w.drew):(Code.region id l.toArray true).wp P Q a w:=by
 subst hn hL;refine wp_region_noPanic (wp_region_any hm (yC (S:=S) (L:=L) _ _ _ _ ?_));rw [show l.toArray.size=l.length by simp]
 exact h
theorem Vj {lp id:Nat} {a:Act} {w:World} {n m:Nat} {listed:Array Bool} (L:Nat) (hm:P.follows .mixedOrders=true) (hd:xE l=true) (hQ:¬ LetsOut Q) (hn:n=l.length) (hL:listed=Array.replicate n false)
  (h:zJ P .any l.toArray (NoPanic Q) S L n listed a w.drew):(Code.region id l.toArray true).wpIn (Fence.wide.inRound lp) m P Q a w:=by
 subst hn hL;refine wpIn_mono (Q:=NoPanic Q) (wpIn_region_any hm (yd (Q:=NoPanic Q) (xF hd) (fun ⟨a,w,h⟩=>hQ ⟨a,w,h⟩) _ _ _ _ (yC (S:=S) (L:=L) _ _ _ _ ?_))) NoPanic.imp
 rw [show l.toArray.size=l.length by simp]
 exact h
end
end Go.Proofs.YtbjndgachcdbcaaGreatDoor
