import Derived.OrdersHeld
import Derived.BigQuiet
import Derived.Deep.RegionHeld3
import Derived.WalkKit
import Derived.Below
namespace Go.Proofs.YtmbofhpmockmbaaGreatDoor
open Go Go.RowKit
def Xq:Op→Bool
 | .move _ | .assign _ | .pick .. | .build .. | .load .. | .binOp .. | .unOp .. | .convert .. | .makeInterface .. | .fieldAddr .. | .field .. | .indexAddr .. | .index .. | .extract .. | .slice ..=>true
 | .call c=>match c.callee with
  | .builtin .len=>true
  | _=>false
 | _=>false
theorem Ya {α:Type} {P:Program} {s:Sem α} {f:α→Value} {w w':World} {n:Next} (h:(s.bind fun x=>Sem.pure (Next.value (f x))).run P w=.ok n w'):∃v,n=.value v:=by
 rw [Sem.run_bind'] at h;cases hs:s.run P w with
 | ok v w1=>rw [hs] at h;simp [Result.andThen] at h;exact ⟨f v,h.1.symm⟩
 | halt x w1=>rw [hs] at h;simp [Result.andThen] at h
theorem xE {P:Program} {o:Oper} {ρ:Operand→Value} {w w':World} {n:Next} (hp:Xq o.op=true) (h:(execOp ρ o).run P w=.ok n w'):∃v,n=.value v:=by
 unfold execOp at h
 cases ho:o.op <;> rw [ho] at hp h <;> simp only [Xq,Bool.false_eq_true] at hp <;> simp only [] at h
 case call c =>
  cases hc:c.callee with
  | builtin b =>
   rw [hc] at hp
   cases b <;> simp at hp
   simp only [resolve,hc] at h;exact Ya (f:=id) h
  | value f=>rw [hc] at hp;simp at hp
  | invoke r m=>rw [hc] at hp;simp at hp
 all_goals first
  | exact Ya (f:=id) h
  | exact Ya h
  | (simp only [Sem.run_pure,Result.ok.injEq] at h;exact ⟨_,h.1.symm⟩)
def xm (l:List Oper):List Nat→List Oper
 | []=>[]
 | i::is=>match l.drop i with
  | o::_=>o::xm l is
  | []=>[]
def YK (listed:Array Bool):List Nat→Array Bool
 | []=>listed
 | i::is=>YK (listed.setIfInBounds i true) is
def Up (md:Region.Mode) (l:List Oper):List Nat→Array Bool→Bool
 | [],_=>true
 | i::is,listed=>(match l.drop i with
  | o::_=>Xq o.op
  | []=>false)&&Region.free md l.toArray listed i&&(Region.ready md l.toArray listed).contains i&&Up md l is (listed.setIfInBounds i true)
section
variable {P:Program} {Q:Exit→Act→World→Prop} {md:Region.Mode} {S:World→Prop} {l:List Oper}
theorem X8 {i:Nat} {o:Oper} {rest:List Oper} (h:l.drop i=o::rest):l.toArray[i]?=some o:=by
 have:(l.drop i)[0]?=some o:=by rw [h];rfl
 rw [List.getElem?_drop] at this
 simpa using this
theorem xn (hs:Region.noSelect l.toArray=true) (hQ:∀c a d v w,Q (.panic c) (a.put d v) w→Q (.panic c) a w) (fuel:Nat) (w:World) (hS:S w) :
  ∀(idx:List Nat) (listed:Array Bool) (a:Act),Up md l idx listed=true →
   wpQuiet P l.toArray S (fun a'=>wpAnyH P md l.toArray Q S fuel (YK listed idx) a' w) (xm l idx) a →
   wpAnyH P md l.toArray Q S (fuel+idx.length) listed a w
 | [],_,_,_,h=>h
 | i::is,listed,a,hB,h=>by
  simp only [Up,Bool.and_eq_true] at hB;obtain ⟨⟨⟨y,E⟩,G⟩,z⟩:=hB;cases hd:l.drop i with
  | nil=>rw [hd] at y;simp at y
  | cons o rest =>
   rw [hd] at y;have J:=X8 hd
   have K:∃v,YieldsIf P l.toArray S o v a∧wpQuiet P l.toArray S (fun a'=>wpAnyH P md l.toArray Q S fuel (YK listed (i::is)) a' w) (xm l is) (a.put o.dst v):=by
    rw [show xm l (i::is)=o::xm l is by simp only [xm,hd]] at h
    unfold wpQuiet at h
    split at h
    ·rename_i D
     obtain ⟨v,I,A⟩:=h;refine ⟨v,.inl ⟨D,fun w' hw'=>?_⟩,A⟩
     have e:=I w' hw'
     unfold Oper.quietAt at e
     cases hrun:(execOp a.eval o).run P w' with
     | ok n w2 =>
      rw [hrun] at e;obtain ⟨u,rfl⟩:=xE y hrun;obtain ⟨rfl,rfl⟩:=e
      rfl
     | halt x w2=>rw [hrun] at e;exact e.elim
    ·rename_i D
     exact ⟨undef,.inr ⟨by simpa using D,rfl⟩,h⟩
   obtain ⟨v,H,A⟩:=K;exact wpAnyH_take J hs E G (fun c a w=>hQ c a _ _ w) H hS (xn hs hQ fuel w hS is _ _ z A)
theorem Vp {fuel fuel':Nat} {w:World} {idx:List Nat} {l':List Oper} {listed listed':Array Bool} {a:Act} (hB:(Region.noSelect l.toArray&&Up md l idx listed)=true) (hf:fuel+idx.length=fuel') (hl:l'=xm l idx) (hL:listed'=YK listed idx)
  (hQ:∀c a d v w,Q (.panic c) (a.put d v) w→Q (.panic c) a w) (hS:S w) (h:wpQuiet P l.toArray S (fun a'=>wpAnyH P md l.toArray Q S fuel listed' a' w) l' a):wpAnyH P md l.toArray Q S fuel' listed a w:=by
 subst hf hl hL;rw [Bool.and_eq_true] at hB;exact xn hB.1 hQ fuel w hS idx listed a hB.2 h
theorem X9 {fuel fuel':Nat} {w:World} {i:Nat} {o:Oper} {rest:List Oper} {listed listed':Array Bool} {a:Act} (hd:l.drop i=o::rest) (hr:Region.ready md l.toArray listed=[i]) (hf:fuel+1=fuel') (hL:listed'=listed.setIfInBounds i true)
  (hw:Region.wanted o (yielded l.toArray a.tmps)=true)
  (h:∀K:Act→World→Prop,Hid (∀a' w',S w'→wpAnyH P md l.toArray Q S fuel listed' a' w'→K a' w')→o.wp P a w K Q):wpAnyH P md l.toArray Q S fuel' listed a w:=by
 subst hf hL;refine wpAnyH_all hr (by simp) fun j hj=>?_
 obtain rfl:j=i:=by simpa using hj
 have e:=h (fun a' w'=>S w'∧wpAnyH P md l.toArray Q S fuel (listed.setIfInBounds j true) a' w') fun a' w' e h2=>⟨e,h2⟩
 unfold wpOp
 rw [X8 hd];simp only [hw,if_true];exact .inl e
theorem uM {listed:Array Bool} {fuel:Nat} {a:Act} {w:World} (hr:Region.ready md l.toArray listed=[]) (h:Q .normal a w):wpAnyH P md l.toArray (NoPanic Q) S fuel listed a w :=
 wpAnyH_done hr (NoPanic.normal h) _
theorem V1 {id:Nat} {a:Act} {w:World} {n:Nat} {listed:Array Bool} (hm:P.follows .mixedOrders=true) (hn:n=l.length) (hL:listed=Array.replicate n false)
  (h:wpAnyH P .any l.toArray (NoPanic Q) S n listed a w.drew):(Code.region id l.toArray true).wp P Q a w:=by
 subst hn hL;refine wp_region_noPanic (wp_region_held (S:=S) hm ?_);rw [show l.toArray.size=l.length by simp]
 exact h
end
end Go.Proofs.YtmbofhpmockmbaaGreatDoor
