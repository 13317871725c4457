import Derived.OrdersHeld
import Derived.BigQuiet
import Derived.Deep.RegionHeld3
import Derived.WalkKit
import Derived.Below
import Derived.RangeFuncCalls
import Derived.OrdersIn
namespace Go.Proofs.YtbjndgachcdbcaaGreatDoor
open Go Go.RowKit
def YD:Op→Bool
 | .move _ | .assign _ | .pick .. | .build .. | .load .. | .binOp .. | .unOp .. | .convert .. | .makeInterface .. | .fieldAddr .. | .field .. | .indexAddr .. | .index .. | .extract .. | .slice ..=>true
 | .call c=>match c.callee with
  | .builtin .len=>true
  | _=>false
 | _=>false
theorem yz {α:Type} {P:Program} {s:Sem α} {f:α→Value} {w w':World} {n:Next} (h:(s.bind fun x=>Sem.pure (Next.value (f x))).run P w=.ok n w'):∃v,n=.value v:=by
 rw [Sem.run_bind'] at h;cases hs:s.run P w with
 | ok v w1=>rw [hs] at h;simp [Result.andThen] at h;exact ⟨f v,h.1.symm⟩
 | halt x w1=>rw [hs] at h;simp [Result.andThen] at h
theorem yv {P:Program} {o:Oper} {ρ:Operand→Value} {w w':World} {n:Next} (hp:YD o.op=true) (h:(execOp ρ o).run P w=.ok n w'):∃v,n=.value v:=by
 unfold execOp at h
 cases ho:o.op <;> rw [ho] at hp h <;> simp only [YD,Bool.false_eq_true] at hp <;> simp only [] at h
 case call c =>
  cases hc:c.callee with
  | builtin b =>
   rw [hc] at hp
   cases b <;> simp at hp
   simp only [resolve,hc] at h;exact yz (f:=id) h
  | value f=>rw [hc] at hp;simp at hp
  | invoke r m=>rw [hc] at hp;simp at hp
 all_goals first
  | exact yz (f:=id) h
  | exact yz h
  | (simp only [Sem.run_pure,Result.ok.injEq] at h;exact ⟨_,h.1.symm⟩)
def ZP (l:List Oper):List Nat→List Oper
 | []=>[]
 | i::is=>match l.drop i with
  | o::_=>o::ZP l is
  | []=>[]
def Z2 (listed:Array Bool):List Nat→Array Bool
 | []=>listed
 | i::is=>Z2 (listed.setIfInBounds i true) is
def uS (md:Region.Mode) (l:List Oper):List Nat→Array Bool→Bool
 | [],_=>true
 | i::is,listed=>(match l.drop i with
  | o::_=>YD o.op
  | []=>false)&&Region.free md l.toArray listed i&&(Region.ready md l.toArray listed).contains i&&uS md l is (listed.setIfInBounds i true)
section
variable {P:Program} {Q:Exit→Act→World→Prop} {md:Region.Mode} {S:World→Prop} {l:List Oper}
theorem ZQ {i:Nat} {o:Oper} {rest:List Oper} (h:l.drop i=o::rest):l.toArray[i]?=some o:=by
 have:(l.drop i)[0]?=some o:=by rw [h];rfl
 rw [List.getElem?_drop] at this
 simpa using this
theorem YL (hs:Region.noSelect l.toArray=true) (hQ:∀c a d v w,Q (.panic c) (a.put d v) w→Q (.panic c) a w) (fuel:Nat) (w:World) (hS:S w) :
  ∀(idx:List Nat) (listed:Array Bool) (a:Act),uS md l idx listed=true →
   wpQuiet P l.toArray S (fun a'=>wpAnyH P md l.toArray Q S fuel (Z2 listed idx) a' w) (ZP l idx) a →
   wpAnyH P md l.toArray Q S (fuel+idx.length) listed a w
 | [],_,_,_,h=>h
 | i::is,listed,a,hB,h=>by
  simp only [uS,Bool.and_eq_true] at hB;obtain ⟨⟨⟨e,E⟩,z⟩,m⟩:=hB;cases hd:l.drop i with
  | nil=>rw [hd] at e;simp at e
  | cons o rest =>
   rw [hd] at e;have D:=ZQ hd
   have F:∃v,YieldsIf P l.toArray S o v a∧wpQuiet P l.toArray S (fun a'=>wpAnyH P md l.toArray Q S fuel (Z2 listed (i::is)) a' w) (ZP l is) (a.put o.dst v):=by
    rw [show ZP l (i::is)=o::ZP l is by simp only [ZP,hd]] at h
    unfold wpQuiet at h
    split at h
    ·rename_i q
     obtain ⟨v,A,y⟩:=h;refine ⟨v,.inl ⟨q,fun w' hw'=>?_⟩,y⟩
     have b:=A w' hw'
     unfold Oper.quietAt at b
     cases hrun:(execOp a.eval o).run P w' with
     | ok n w2 =>
      rw [hrun] at b;obtain ⟨u,rfl⟩:=yv e hrun;obtain ⟨rfl,rfl⟩:=b
      rfl
     | halt x w2=>rw [hrun] at b;exact b.elim
    ·rename_i q
     exact ⟨undef,.inr ⟨by simpa using q,rfl⟩,h⟩
   obtain ⟨v,B,y⟩:=F;exact wpAnyH_take D hs E z (fun c a w=>hQ c a _ _ w) B hS (YL hs hQ fuel w hS is _ _ m y)
theorem zS {fuel fuel':Nat} {w:World} {idx:List Nat} {l':List Oper} {listed listed':Array Bool} {a:Act} (hB:(Region.noSelect l.toArray&&uS md l idx listed)=true) (hf:fuel+idx.length=fuel') (hl:l'=ZP l idx) (hL:listed'=Z2 listed idx)
  (hQ:∀c a d v w,Q (.panic c) (a.put d v) w→Q (.panic c) a w) (hS:S w) (h:wpQuiet P l.toArray S (fun a'=>wpAnyH P md l.toArray Q S fuel listed' a' w) l' a):wpAnyH P md l.toArray Q S fuel' listed a w:=by
 subst hf hl hL;rw [Bool.and_eq_true] at hB;exact YL hB.1 hQ fuel w hS idx listed a hB.2 h
theorem zB {fuel fuel':Nat} {w:World} {i:Nat} {o:Oper} {rest:List Oper} {listed listed':Array Bool} {a:Act} (hd:l.drop i=o::rest) (hr:Region.ready md l.toArray listed=[i]) (hf:fuel+1=fuel') (hL:listed'=listed.setIfInBounds i true)
  (hw:Region.wanted o (yielded l.toArray a.tmps)=true)
  (h:∀K:Act→World→Prop,Hid (∀a' w',S w'→wpAnyH P md l.toArray Q S fuel listed' a' w'→K a' w')→o.wp P a w K Q):wpAnyH P md l.toArray Q S fuel' listed a w:=by
 subst hf hL;refine wpAnyH_all hr (by simp) fun j hj=>?_
 obtain rfl:j=i:=by simpa using hj
 have b:=h (fun a' w'=>S w'∧wpAnyH P md l.toArray Q S fuel (listed.setIfInBounds j true) a' w') fun a' w' b h2=>⟨b,h2⟩
 unfold wpOp
 rw [ZQ hd];simp only [hw,if_true];exact .inl b
theorem ZG {fuel fuel':Nat} {w:World} {i:Nat} {o:Oper} {rest:List Oper} {listed listed':Array Bool} {a:Act} (hd:l.drop i=o::rest) (hr:Region.ready md l.toArray listed=[i]) (hf:fuel+1=fuel') (hL:listed'=listed.setIfInBounds i true)
  (hw:Region.wanted o (yielded l.toArray a.tmps)=true)
  (h:∀K:Act→World→Prop,Hid (∀a' w',S w'→wpAnyH P md l.toArray Q S fuel listed' a' w'→K a' w')→if Region.wanted o (yielded l.toArray a.tmps)=true then o.wp P a w K Q else True):wpAnyH P md l.toArray Q S fuel' listed a w :=
 zB hd hr hf hL hw fun K hK=>by have:=h K hK;rwa [if_pos hw] at this
theorem Zv {listed:Array Bool} {fuel:Nat} {a:Act} {w:World} (hr:Region.ready md l.toArray listed=[]) (h:Q .normal a w):wpAnyH P md l.toArray (NoPanic Q) S fuel listed a w :=
 wpAnyH_done hr (NoPanic.normal h) _
theorem ZR {id:Nat} {a:Act} {w:World} {n:Nat} {listed:Array Bool} (hm:P.follows .mixedOrders=true) (hn:n=l.length) (hL:listed=Array.replicate n false)
  (h:wpAnyH P .any l.toArray (NoPanic Q) S n listed a w.drew):(Code.region id l.toArray true).wp P Q a w:=by
 subst hn hL;refine wp_region_noPanic (wp_region_held (S:=S) hm ?_);rw [show l.toArray.size=l.length by simp]
 exact h
end
def zC (p:World→Prop):Type:={ wx:World // p wx }
theorem vd {l n:Nat} {P:Program} {row:String} {args:Array Value} {w:World} {R:Value→World→Prop} (h:Rows P row args w R):RowsIn (Fence.wide.inRound l) n P row args w R:=fun c cs _=>by
 obtain ⟨v,b,r,s⟩:=h c cs;exact ⟨v,b,r,stepsIn_wide.2 s⟩
theorem V8 {l n:Nat} {P:Program} {o:Oper} {a:Act} {w:World} {K:Act→World→Prop} {Q:Exit→Act→World→Prop} (hd:∀c,o.op≠.defer c) (h:o.wp P a w K Q):o.wpIn (Fence.wide.inRound l) n P a w K Q:=by
 refine ⟨fun _ _=>trivial,?_⟩
 rw [Oper.semAt_eq _ _ _ hd]
 unfold Oper.wp at h
 have b:(Fence.wide.inRound l).depth.isSome=true→1≤n:=fun e=>by simp [Fence.wide] at e
 generalize (execOp a.eval o).run P w=r at h ⊢;cases r with
 | ok x w' =>
  cases x <;> simp only [Oper.upon,Oper.uponIn] at h ⊢
  case value=>exact h
  case skip=>exact h
  case defer=>exact h
  case enter=>exact ⟨b,CallsIn.inRound l (callsIn_wide.2 h)⟩
  case row=>exact ⟨b,vd h⟩
 | halt x w'=>cases x <;> simp only [Oper.upon,Oper.uponIn] at h ⊢ <;> exact h
theorem yh {l n:Nat} {P:Program} {md:Region.Mode} {ops:Array Oper} {Q:Exit→Act→World→Prop} (hd:∀(i:Nat) (o:Oper),ops[i]?=some o→∀c,o.op≠.defer c) (hQ:¬ LetsOut Q) :
  ∀(fuel:Nat) (listed:Array Bool) (a:Act) (w:World),wpAny P md ops Q fuel listed a w→wpAnyIn (Fence.wide.inRound l) n P md ops Q fuel listed a w
 | 0,_,_,_,h=>h
 | fuel+1,listed,a,w,h=>⟨h.1,fun i hi=>by
   have b:=h.2 i hi
   unfold wpOp at b
   unfold wpOpIn
   cases ho:ops[i]? with
   | none =>
    simp only [ho] at b ⊢;exact yh hd hQ fuel _ _ _ b
   | some o =>
    simp only [ho] at b ⊢
    split
    ·rename_i e
     simp only [e,if_true] at b;rcases b with b | ⟨-,m⟩
     ·exact Oper.wpIn_mono (fun a' w'=>yh hd hQ fuel _ a' w') (V8 (hd i o ho) b)
     ·exact absurd m hQ
    ·rename_i e
     simp only [e] at b
     exact ⟨fun _ _=>trivial,yh hd hQ fuel _ _ _ b⟩⟩
def xQ (l:List Oper):Bool:=l.all fun o=>match o.op with
 | .defer _=>false
 | _=>true
theorem xR {l:List Oper} (h:xQ l=true):∀(i:Nat) (o:Oper),l.toArray[i]?=some o→∀c,o.op≠.defer c:=by
 intro i o b c e
 unfold xQ at h
 rw [List.all_eq_true] at h
 have:=h o (List.mem_of_getElem? (by simpa using b))
 rw [e] at this;cases this
end Go.Proofs.YtbjndgachcdbcaaGreatDoor
