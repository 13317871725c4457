import Derived.RangeFuncCalls
import Derived.OrdersIn
import Derived.Test.YtbjndgachcdbcaaGreatDoorWMix
namespace Go.Proofs.YtbjndgachcdbcaaGreatDoor
open Go Go.RowKit
theorem Xj {l n:Nat} {P:Program} {row:String} {args:Array Value} {w:World} {R:Value→World→Prop} (h:Rows P row args w R):RowsIn (Fence.wide.inRound l) n P row args w R:=fun c cs _=>by
 obtain ⟨v,b,r,s⟩:=h c cs;exact ⟨v,b,r,stepsIn_wide.2 s⟩
theorem vF {l n:Nat} {P:Program} {o:Oper} {a:Act} {w:World} {K:Act→World→Prop} {Q:Exit→Act→World→Prop} (hd:∀c,o.op≠.defer c) (h:o.wp P a w K Q):o.wpIn (Fence.wide.inRound l) n P a w K Q:=by
 refine ⟨fun _ _=>trivial,?_⟩
 rw [Oper.semAt_eq _ _ _ hd]
 unfold Oper.wp at h
 have b:(Fence.wide.inRound l).depth.isSome=true→1≤n:=fun e=>by simp [Fence.wide] at e
 generalize (execOp a.eval o).run P w=r at h ⊢;cases r with
 | ok x w' =>
  cases x <;> simp only [Oper.upon,Oper.uponIn] at h ⊢
  case value=>exact h
  case skip=>exact h
  case defer=>exact h
  case enter=>exact ⟨b,CallsIn.inRound l (callsIn_wide.2 h)⟩
  case row=>exact ⟨b,Xj h⟩
 | halt x w'=>cases x <;> simp only [Oper.upon,Oper.uponIn] at h ⊢ <;> exact h
theorem Z1 {l n:Nat} {P:Program} {md:Region.Mode} {ops:Array Oper} {Q:Exit→Act→World→Prop} (hd:∀(i:Nat) (o:Oper),ops[i]?=some o→∀c,o.op≠.defer c) (hQ:¬ LetsOut Q) :
  ∀(fuel:Nat) (listed:Array Bool) (a:Act) (w:World),wpAny P md ops Q fuel listed a w→wpAnyIn (Fence.wide.inRound l) n P md ops Q fuel listed a w
 | 0,_,_,_,h=>h
 | fuel+1,listed,a,w,h=>⟨h.1,fun i hi=>by
   have b:=h.2 i hi
   unfold wpOp at b
   unfold wpOpIn
   cases ho:ops[i]? with
   | none =>
    simp only [ho] at b ⊢;exact Z1 hd hQ fuel _ _ _ b
   | some o =>
    simp only [ho] at b ⊢
    split
    ·rename_i e
     simp only [e,if_true] at b;rcases b with b | ⟨-,m⟩
     ·exact Oper.wpIn_mono (fun a' w'=>Z1 hd hQ fuel _ a' w') (vF (hd i o ho) b)
     ·exact absurd m hQ
    ·rename_i e
     simp only [e] at b
     exact ⟨fun _ _=>trivial,Z1 hd hQ fuel _ _ _ b⟩⟩
def Y8 (l:List Oper):Bool:=l.all fun o=>match o.op with
 | .defer _=>false
 | _=>true
theorem Y9 {l:List Oper} (h:Y8 l=true):∀(i:Nat) (o:Oper),l.toArray[i]?=some o→∀c,o.op≠.defer c:=by
 intro i o b c e
 unfold Y8 at h
 rw [List.all_eq_true] at h
 have:=h o (List.mem_of_getElem? (by simpa using b))
 rw [e] at this;cases this
end Go.Proofs.YtbjndgachcdbcaaGreatDoor
