import Derived.OrdersHeld
import Derived.BigQuiet
import Derived.Deep.RegionHeld3
import Derived.WalkKit
import Derived.Below
namespace Go.Proofs.YtmbofhpmockmbaaGreatDoor
open Go Go.RowKit
def XY:Op→Bool
 | .move _ | .assign _ | .pick .. | .build .. | .load .. | .binOp .. | .unOp .. | .convert .. | .makeInterface .. | .fieldAddr .. | .field .. | .indexAddr .. | .index .. | .extract .. | .slice ..=>true
 | .call c=>match c.callee with
  | .builtin .len=>true
  | _=>false
 | _=>false
theorem Yt {α:Type} {P:Program} {s:Sem α} {f:α→Value} {w w':World} {n:Next} (h:(s.bind fun x=>Sem.pure (Next.value (f x))).run P w=.ok n w'):∃v,n=.value v:=by
 rw [Sem.run_bind'] at h;cases hs:s.run P w with
 | ok v w1=>rw [hs] at h;simp [Result.andThen] at h;exact ⟨f v,h.1.symm⟩
 | halt x w1=>rw [hs] at h;simp [Result.andThen] at h
theorem Xe {P:Program} {o:Oper} {ρ:Operand→Value} {w w':World} {n:Next} (hp:XY o.op=true) (h:(execOp ρ o).run P w=.ok n w'):∃v,n=.value v:=by
 unfold execOp at h
 cases ho:o.op <;> rw [ho] at hp h <;> simp only [XY,Bool.false_eq_true] at hp <;> simp only [] at h
 case call c =>
  cases hc:c.callee with
  | builtin b =>
   rw [hc] at hp
   cases b <;> simp at hp
   simp only [resolve,hc] at h;exact Yt (f:=id) h
  | value f=>rw [hc] at hp;simp at hp
  | invoke r m=>rw [hc] at hp;simp at hp
 all_goals first
  | exact Yt (f:=id) h
  | exact Yt h
  | (simp only [Sem.run_pure,Result.ok.injEq] at h;exact ⟨_,h.1.symm⟩)
def xP (l:List Oper):List Nat→List Oper
 | []=>[]
 | i::is=>match l.drop i with
  | o::_=>o::xP l is
  | []=>[]
def xd (listed:Array Bool):List Nat→Array Bool
 | []=>listed
 | i::is=>xd (listed.setIfInBounds i true) is
def U0 (md:Region.Mode) (l:List Oper):List Nat→Array Bool→Bool
 | [],_=>true
 | i::is,listed=>(match l.drop i with
  | o::_=>XY o.op
  | []=>false)&&Region.free md l.toArray listed i&&(Region.ready md l.toArray listed).contains i&&U0 md l is (listed.setIfInBounds i true)
section
variable {P:Program} {Q:Exit→Act→World→Prop} {md:Region.Mode} {S:World→Prop} {l:List Oper}
theorem YD {i:Nat} {o:Oper} {rest:List Oper} (h:l.drop i=o::rest):l.toArray[i]?=some o:=by
 have:(l.drop i)[0]?=some o:=by rw [h];rfl
 rw [List.getElem?_drop] at this
 simpa using this
theorem xQ (hs:Region.noSelect l.toArray=true) (hQ:∀c a d v w,Q (.panic c) (a.put d v) w→Q (.panic c) a w) (fuel:Nat) (w:World) (hS:S w) :
  ∀(idx:List Nat) (listed:Array Bool) (a:Act),U0 md l idx listed=true →
   wpQuiet P l.toArray S (fun a'=>wpAnyH P md l.toArray Q S fuel (xd listed idx) a' w) (xP l idx) a →
   wpAnyH P md l.toArray Q S (fuel+idx.length) listed a w
 | [],_,_,_,h=>h
 | i::is,listed,a,hB,h=>by
  simp only [U0,Bool.and_eq_true] at hB;obtain ⟨⟨⟨z,I⟩,H⟩,A⟩:=hB;cases hd:l.drop i with
  | nil=>rw [hd] at z;simp at z
  | cons o rest =>
   rw [hd] at z;have L:=YD hd
   have K:∃v,YieldsIf P l.toArray S o v a∧wpQuiet P l.toArray S (fun a'=>wpAnyH P md l.toArray Q S fuel (xd listed (i::is)) a' w) (xP l is) (a.put o.dst v):=by
    rw [show xP l (i::is)=o::xP l is by simp only [xP,hd]] at h
    unfold wpQuiet at h
    split at h
    ·rename_i E
     obtain ⟨v,G,D⟩:=h;refine ⟨v,.inl ⟨E,fun w' hw'=>?_⟩,D⟩
     have y:=G w' hw'
     unfold Oper.quietAt at y
     cases hrun:(execOp a.eval o).run P w' with
     | ok n w2 =>
      rw [hrun] at y;obtain ⟨u,rfl⟩:=Xe z hrun;obtain ⟨rfl,rfl⟩:=y
      rfl
     | halt x w2=>rw [hrun] at y;exact y.elim
    ·rename_i E
     exact ⟨undef,.inr ⟨by simpa using E,rfl⟩,h⟩
   obtain ⟨v,J,D⟩:=K;exact wpAnyH_take L hs I H (fun c a w=>hQ c a _ _ w) J hS (xQ hs hQ fuel w hS is _ _ A D)
theorem yL {fuel fuel':Nat} {w:World} {idx:List Nat} {l':List Oper} {listed listed':Array Bool} {a:Act} (hB:(Region.noSelect l.toArray&&U0 md l idx listed)=true) (hf:fuel+idx.length=fuel') (hl:l'=xP l idx) (hL:listed'=xd listed idx)
  (hQ:∀c a d v w,Q (.panic c) (a.put d v) w→Q (.panic c) a w) (hS:S w) (h:wpQuiet P l.toArray S (fun a'=>wpAnyH P md l.toArray Q S fuel listed' a' w) l' a):wpAnyH P md l.toArray Q S fuel' listed a w:=by
 subst hf hl hL;rw [Bool.and_eq_true] at hB;exact xQ hB.1 hQ fuel w hS idx listed a hB.2 h
theorem Z4 {fuel fuel':Nat} {w:World} {i:Nat} {o:Oper} {rest:List Oper} {listed listed':Array Bool} {a:Act} (hd:l.drop i=o::rest) (hr:Region.ready md l.toArray listed=[i]) (hf:fuel+1=fuel') (hL:listed'=listed.setIfInBounds i true)
  (hw:Region.wanted o (yielded l.toArray a.tmps)=true)
  (h:∀K:Act→World→Prop,Hid (∀a' w',S w'→wpAnyH P md l.toArray Q S fuel listed' a' w'→K a' w')→o.wp P a w K Q):wpAnyH P md l.toArray Q S fuel' listed a w:=by
 subst hf hL;refine wpAnyH_all hr (by simp) fun j hj=>?_
 obtain rfl:j=i:=by simpa using hj
 have y:=h (fun a' w'=>S w'∧wpAnyH P md l.toArray Q S fuel (listed.setIfInBounds j true) a' w') fun a' w' y h2=>⟨y,h2⟩
 unfold wpOp
 rw [YD hd];simp only [hw,if_true];exact .inl y
theorem Uw {listed:Array Bool} {fuel:Nat} {a:Act} {w:World} (hr:Region.ready md l.toArray listed=[]) (h:Q .normal a w):wpAnyH P md l.toArray (NoPanic Q) S fuel listed a w :=
 wpAnyH_done hr (NoPanic.normal h) _
theorem uI {id:Nat} {a:Act} {w:World} {n:Nat} {listed:Array Bool} (hm:P.follows .mixedOrders=true) (hn:n=l.length) (hL:listed=Array.replicate n false)
  (h:wpAnyH P .any l.toArray (NoPanic Q) S n listed a w.drew):(Code.region id l.toArray true).wp P Q a w:=by
 subst hn hL;refine wp_region_noPanic (wp_region_held (S:=S) hm ?_);rw [show l.toArray.size=l.length by simp]
 exact h
end
end Go.Proofs.YtmbofhpmockmbaaGreatDoor
