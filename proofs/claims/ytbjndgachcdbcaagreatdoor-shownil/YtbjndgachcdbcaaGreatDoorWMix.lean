import Derived.OrdersHeld
import Derived.BigQuiet
import Derived.Deep.RegionHeld3
import Derived.WalkKit
import Derived.Below
namespace Go.Proofs.YtbjndgachcdbcaaGreatDoor
open Go Go.RowKit
def Ya:Op→Bool
 | .move _ | .assign _ | .pick .. | .build .. | .load .. | .binOp .. | .unOp .. | .convert .. | .makeInterface .. | .fieldAddr .. | .field .. | .indexAddr .. | .index .. | .extract .. | .slice ..=>true
 | .call c=>match c.callee with
  | .builtin .len=>true
  | _=>false
 | _=>false
theorem yb {α:Type} {P:Program} {s:Sem α} {f:α→Value} {w w':World} {n:Next} (h:(s.bind fun x=>Sem.pure (Next.value (f x))).run P w=.ok n w'):∃v,n=.value v:=by
 rw [Sem.run_bind'] at h;cases hs:s.run P w with
 | ok v w1=>rw [hs] at h;simp [Result.andThen] at h;exact ⟨f v,h.1.symm⟩
 | halt x w1=>rw [hs] at h;simp [Result.andThen] at h
theorem Z7 {P:Program} {o:Oper} {ρ:Operand→Value} {w w':World} {n:Next} (hp:Ya o.op=true) (h:(execOp ρ o).run P w=.ok n w'):∃v,n=.value v:=by
 unfold execOp at h
 cases ho:o.op <;> rw [ho] at hp h <;> simp only [Ya,Bool.false_eq_true] at hp <;> simp only [] at h
 case call c =>
  cases hc:c.callee with
  | builtin b =>
   rw [hc] at hp
   cases b <;> simp at hp
   simp only [resolve,hc] at h;exact yb (f:=id) h
  | value f=>rw [hc] at hp;simp at hp
  | invoke r m=>rw [hc] at hp;simp at hp
 all_goals first
  | exact yb (f:=id) h
  | exact yb h
  | (simp only [Sem.run_pure,Result.ok.injEq] at h;exact ⟨_,h.1.symm⟩)
def ZI (l:List Oper):List Nat→List Oper
 | []=>[]
 | i::is=>match l.drop i with
  | o::_=>o::ZI l is
  | []=>[]
def ZO (listed:Array Bool):List Nat→Array Bool
 | []=>listed
 | i::is=>ZO (listed.setIfInBounds i true) is
def VJ (md:Region.Mode) (l:List Oper):List Nat→Array Bool→Bool
 | [],_=>true
 | i::is,listed=>(match l.drop i with
  | o::_=>Ya o.op
  | []=>false)&&Region.free md l.toArray listed i&&(Region.ready md l.toArray listed).contains i&&VJ md l is (listed.setIfInBounds i true)
section
variable {P:Program} {Q:Exit→Act→World→Prop} {md:Region.Mode} {S:World→Prop} {l:List Oper}
theorem yn {i:Nat} {o:Oper} {rest:List Oper} (h:l.drop i=o::rest):l.toArray[i]?=some o:=by
 have:(l.drop i)[0]?=some o:=by rw [h];rfl
 rw [List.getElem?_drop] at this
 simpa using this
theorem Yk (hs:Region.noSelect l.toArray=true) (hQ:∀c a d v w,Q (.panic c) (a.put d v) w→Q (.panic c) a w) (fuel:Nat) (w:World) (hS:S w) :
  ∀(idx:List Nat) (listed:Array Bool) (a:Act),VJ md l idx listed=true →
   wpQuiet P l.toArray S (fun a'=>wpAnyH P md l.toArray Q S fuel (ZO listed idx) a' w) (ZI l idx) a →
   wpAnyH P md l.toArray Q S (fuel+idx.length) listed a w
 | [],_,_,_,h=>h
 | i::is,listed,a,hB,h=>by
  simp only [VJ,Bool.and_eq_true] at hB;obtain ⟨⟨⟨e,z⟩,A⟩,q⟩:=hB;cases hd:l.drop i with
  | nil=>rw [hd] at e;simp at e
  | cons o rest =>
   rw [hd] at e;have F:=yn hd
   have E:∃v,YieldsIf P l.toArray S o v a∧wpQuiet P l.toArray S (fun a'=>wpAnyH P md l.toArray Q S fuel (ZO listed (i::is)) a' w) (ZI l is) (a.put o.dst v):=by
    rw [show ZI l (i::is)=o::ZI l is by simp only [ZI,hd]] at h
    unfold wpQuiet at h
    split at h
    ·rename_i m
     obtain ⟨v,D,y⟩:=h;refine ⟨v,.inl ⟨m,fun w' hw'=>?_⟩,y⟩
     have b:=D w' hw'
     unfold Oper.quietAt at b
     cases hrun:(execOp a.eval o).run P w' with
     | ok n w2 =>
      rw [hrun] at b;obtain ⟨u,rfl⟩:=Z7 e hrun;obtain ⟨rfl,rfl⟩:=b
      rfl
     | halt x w2=>rw [hrun] at b;exact b.elim
    ·rename_i m
     exact ⟨undef,.inr ⟨by simpa using m,rfl⟩,h⟩
   obtain ⟨v,B,y⟩:=E;exact wpAnyH_take F hs z A (fun c a w=>hQ c a _ _ w) B hS (Yk hs hQ fuel w hS is _ _ q y)
theorem Zv {fuel fuel':Nat} {w:World} {idx:List Nat} {l':List Oper} {listed listed':Array Bool} {a:Act} (hB:(Region.noSelect l.toArray&&VJ md l idx listed)=true) (hf:fuel+idx.length=fuel') (hl:l'=ZI l idx) (hL:listed'=ZO listed idx)
  (hQ:∀c a d v w,Q (.panic c) (a.put d v) w→Q (.panic c) a w) (hS:S w) (h:wpQuiet P l.toArray S (fun a'=>wpAnyH P md l.toArray Q S fuel listed' a' w) l' a):wpAnyH P md l.toArray Q S fuel' listed a w:=by
 subst hf hl hL;rw [Bool.and_eq_true] at hB;exact Yk hB.1 hQ fuel w hS idx listed a hB.2 h
theorem zR {fuel fuel':Nat} {w:World} {i:Nat} {o:Oper} {rest:List Oper} {listed listed':Array Bool} {a:Act} (hd:l.drop i=o::rest) (hr:Region.ready md l.toArray listed=[i]) (hf:fuel+1=fuel') (hL:listed'=listed.setIfInBounds i true)
  (hw:Region.wanted o (yielded l.toArray a.tmps)=true)
  (h:∀K:Act→World→Prop,Hid (∀a' w',S w'→wpAnyH P md l.toArray Q S fuel listed' a' w'→K a' w')→o.wp P a w K Q):wpAnyH P md l.toArray Q S fuel' listed a w:=by
 subst hf hL;refine wpAnyH_all hr (by simp) fun j hj=>?_
 obtain rfl:j=i:=by simpa using hj
 have b:=h (fun a' w'=>S w'∧wpAnyH P md l.toArray Q S fuel (listed.setIfInBounds j true) a' w') fun a' w' b h2=>⟨b,h2⟩
 unfold wpOp
 rw [yn hd];simp only [hw,if_true];exact .inl b
theorem xf {fuel fuel':Nat} {w:World} {i:Nat} {o:Oper} {rest:List Oper} {listed listed':Array Bool} {a:Act} (hd:l.drop i=o::rest) (hr:Region.ready md l.toArray listed=[i]) (hf:fuel+1=fuel') (hL:listed'=listed.setIfInBounds i true)
  (hw:Region.wanted o (yielded l.toArray a.tmps)=true)
  (h:∀K:Act→World→Prop,Hid (∀a' w',S w'→wpAnyH P md l.toArray Q S fuel listed' a' w'→K a' w')→if Region.wanted o (yielded l.toArray a.tmps)=true then o.wp P a w K Q else True):wpAnyH P md l.toArray Q S fuel' listed a w :=
 zR hd hr hf hL hw fun K hK=>by have:=h K hK;rwa [if_pos hw] at this
theorem yo {listed:Array Bool} {fuel:Nat} {a:Act} {w:World} (hr:Region.ready md l.toArray listed=[]) (h:Q .normal a w):wpAnyH P md l.toArray (NoPanic Q) S fuel listed a w :=
 wpAnyH_done hr (NoPanic.normal h) _
theorem ZZ {id:Nat} {a:Act} {w:World} {n:Nat} {listed:Array Bool} (hm:P.follows .mixedOrders=true) (hn:n=l.length) (hL:listed=Array.replicate n false)
  (h:wpAnyH P .any l.toArray (NoPanic Q) S n listed a w.drew):(Code.region id l.toArray true).wp P Q a w:=by
 subst hn hL;refine wp_region_noPanic (wp_region_held (S:=S) hm ?_);rw [show l.toArray.size=l.length by simp]
 exact h
end
def zD (p:World→Prop):Type:={ wx:World // p wx }
end Go.Proofs.YtbjndgachcdbcaaGreatDoor
